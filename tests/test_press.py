"""Promise 2: press."""

import random
import unittest

from tests.helper import ALL_PAIRS_OF_25, ask_board, grid, lit_after, path, press, random_pairs


class Press(unittest.TestCase):
    def test_button_turns_its_light_and_its_neighbours(self):
        self.assertEqual(
            ask_board(4, path(4), press(0, 1), press(0, 2), press(0, 4), press(0, 8)),
            [[0, 0b0011], [0, 0b0111], [0, 0b1110], [0, 0b1100]])

    def test_lit_lights_go_off_and_others_on(self):
        self.assertEqual(ask_board(3, path(3), press(0b101, 0b010)), [[0, 0b010]])

    def test_no_button_leaves_the_lights(self):
        self.assertEqual(ask_board(3, path(3), press(0, 0), press(5, 0), press(7, 0)), [[0, 0], [0, 5], [0, 7]])

    def test_one_light(self):
        self.assertEqual(
            ask_board(1, [], press(0, 0), press(0, 1), press(1, 0), press(1, 1)), [[0, 0], [0, 1], [0, 1], [0, 0]])

    def test_presses_are_not_kept_for_the_next_call(self):
        self.assertEqual(ask_board(3, path(3), press(0, 2), press(0, 2), press(0, 0)), [[0, 7], [0, 7], [0, 0]])

    def test_all_sets_of_small_boards(self):
        for count, pairs in ((2, []), (2, [(0, 1)]), (4, path(4)), (4, grid(2, 2)), (5, [(0, 4), (1, 3)])):
            asked = [(lights, presses) for lights in range(1 << count) for presses in range(1 << count)]
            given = ask_board(count, pairs, *[press(*one) for one in asked])
            self.assertEqual(given, [[0, lit_after(pairs, *one)] for one in asked])

    def test_boards_of_all_sizes(self):
        source = random.Random(11)
        for count in range(1, 26):
            every = (1 << count) - 1
            pairs = random_pairs(count, source.random(), source)
            asked = [(source.randint(0, every), source.randint(0, every)) for turn in range(30)]
            asked += [(every, every), (0, every), (every, 0)] + [(0, 1 << button) for button in range(count)]
            given = ask_board(count, pairs, *[press(*one) for one in asked])
            self.assertEqual(given, [[0, lit_after(pairs, *one)] for one in asked])

    def test_every_two_neighbours(self):
        every = (1 << 25) - 1
        self.assertEqual(
            ask_board(25, ALL_PAIRS_OF_25, press(every, 1 << 7), press(every, 3), press(0, every)),
            [[0, 0], [0, every], [0, every]])


if __name__ == "__main__":
    unittest.main()
