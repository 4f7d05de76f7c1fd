"""Promise 6: worst."""

import random
import unittest

from tests.helper import (ALL_PAIRS_OF_25, ask_board, complete, effects, fewest, free, grid, least, lit_after, path,
                          random_pairs, worst, worst_of)


def turned_by_all_sets(count, pairs):
    """For each set of buttons the lights that it turns, each out of a smaller set and one button."""
    single = [lit_after(pairs, 0, 1 << button) for button in range(count)]
    found = {0: 0}
    for button in range(count):
        for buttons in range(1 << button):
            found[buttons | 1 << button] = found[buttons] ^ single[button]
    return found


class Worst(unittest.TestCase):
    def worst(self, count, pairs):
        return ask_board(count, pairs, worst())[0]

    def test_one_light(self):
        self.assertEqual(self.worst(1, []), [1, 1])

    def test_no_neighbours_takes_all_buttons(self):
        for count in range(1, 17):
            self.assertEqual(self.worst(count, []), [count, (1 << count) - 1])

    def test_every_two_neighbours_takes_one_button(self):
        for count in range(1, 17):
            self.assertEqual(self.worst(count, complete(range(count))), [1, (1 << count) - 1])

    def test_all_lights_can_be_put_out(self):
        # Only one set puts out any lights then, so those that take all buttons are the worst.
        for count, pairs in ((3, path(3)), (4, path(4)), (9, grid(3, 3)), (15, path(15)), (16, path(16))):
            self.assertEqual(ask_board(count, pairs, free(), worst()),
                             [[0], [count, lit_after(pairs, 0, (1 << count) - 1)]])

    def test_not_all_lights_can_be_put_out(self):
        # Two neighbours without others are put out together or not at all.
        self.assertEqual(self.worst(2, [(0, 1)]), [1, 3])
        self.assertEqual(self.worst(4, [(0, 1), (2, 3)]), [2, 15])
        self.assertEqual(self.worst(3, [(1, 2)]), [2, 7])

    def test_lights_that_cannot_be_put_out_are_no_answer(self):
        source = random.Random(21)
        for turn in range(60):
            count = source.randint(1, 16)
            pairs = random_pairs(count, source.random(), source)
            answer = self.worst(count, pairs)
            given = ask_board(count, pairs, least(answer[1]))[0]
            self.assertEqual(given[0], answer[0])

    def test_least_number_of_several(self):
        # The quiet sets of a path of five are 0 and 27, so two of the buttons 0, 1, 3 and 4 are the most it takes,
        # with button 2: three such pairs, as the other two of the four do the same.
        self.assertEqual([lit_after(path(5), 0, buttons) for buttons in (7, 13, 21)], [10, 17, 21])
        self.assertEqual(self.worst(5, path(5)), [3, 10])

    def test_least_number_of_several_by_pressing_every_set(self):
        source = random.Random(26)
        boards = [(count, random_pairs(count, source.random(), source)) for count in (5, 6, 7, 8) * 30]
        found = 0
        for count, pairs in boards:
            sizes = fewest(effects(range(count), pairs))
            if list(sizes.values()).count(max(sizes.values())) > 1:
                self.assertEqual(self.worst(count, pairs), worst_of(sizes), pairs)
                found += 1
        self.assertGreater(found, 10)

    def test_small_boards_by_pressing_every_set(self):
        source = random.Random(22)
        boards = [(count, random_pairs(count, source.random(), source)) for count in (1, 2, 3, 4, 5, 6, 7, 8) * 8]
        boards += [(9, grid(3, 3)), (10, grid(2, 5)), (8, complete(range(8))), (8, complete((1, 2, 4, 5, 7)))]
        for count, pairs in boards:
            self.assertEqual(self.worst(count, pairs), worst_of(fewest(effects(range(count), pairs))), pairs)

    def test_sixteen_lights_by_all_sets(self):
        source = random.Random(23)
        cliques = [pair for first in range(0, 16, 4) for pair in complete(range(first, first + 4))]
        halves = [pair for pair in complete(range(16)) if pair[0] % 2 != pair[1] % 2]
        boards = [grid(4, 4), grid(2, 8), cliques, halves, complete(range(15)), complete(range(1, 16))]
        boards += [random_pairs(16, share, source) for share in (0.1, 0.5, 0.9)]
        for pairs in boards:
            self.assertEqual(self.worst(16, pairs), worst_of(fewest(turned_by_all_sets(16, pairs))), pairs)

    def test_four_by_four(self):
        self.assertEqual(self.worst(16, grid(4, 4))[0], 7)

    def test_boards_of_small_parts(self):
        # Parts that share no neighbours take their buttons apart, so the worst is that of each part together.
        source = random.Random(24)
        for turn in range(40):
            count = source.randint(11, 16)
            mixed = source.sample(range(count), count)
            parts = [sorted(mixed[place:place + 5]) for place in range(0, count, 5)]
            pairs = sorted(pair for part in parts for pair in complete(part) if source.random() < turn / 39)
            found = [worst_of(fewest(effects(part, pairs))) for part in parts]
            self.assertEqual(self.worst(count, pairs), [sum(one[0] for one in found), sum(one[1] for one in found)])

    def test_more_than_sixteen_lights(self):
        source = random.Random(25)
        for count in range(17, 26):
            for pairs in ([], complete(range(count)), path(count), random_pairs(count, 0.4, source)):
                self.assertEqual(self.worst(count, pairs), [-2])
        self.assertEqual(self.worst(25, grid(5, 5)), [-2])

    def test_sixteen_lights_are_not_refused(self):
        for pairs in ([], path(16), grid(4, 4), complete(range(16))):
            self.assertEqual(len(self.worst(16, pairs)), 2)

    def test_ahead_of_least_and_behind_it(self):
        for count, pairs in ((2, [(0, 1)]), (5, path(5)), (16, grid(4, 4)), (17, path(17)), (25, ALL_PAIRS_OF_25)):
            every = (1 << count) - 1
            first = ask_board(count, pairs, worst(), worst(), least(every), least(1), worst())
            other = ask_board(count, pairs, least(1), least(every), worst())
            self.assertEqual(first, [other[2], other[2], other[1], other[0], other[2]])


if __name__ == "__main__":
    unittest.main()
