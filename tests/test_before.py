"""The row "Before": a set with a bit that is no light's is refused with -2, and all is as it was."""

import unittest

from tests.helper import (ALL_PAIRS_OF_25, ask_board, both, complete, even, free, grid, least, odd, path, press, ways,
                          worst)

LARGEST = (1 << 32) - 1

BOARDS = [(1, []), (2, [(0, 1)]), (5, path(5)), (16, grid(4, 4)), (17, path(17)), (24, complete(range(24))),
          (25, ALL_PAIRS_OF_25), (25, [])]


def strange_sets(count):
    """Sets with bits that are no light's, alone, with others and with lights."""
    every = (1 << count) - 1
    alone = [1 << bit for bit in range(count, 32)]
    return alone + [bit | every for bit in alone] + [bit | 1 for bit in alone] + [LARGEST, LARGEST - every]


class Before(unittest.TestCase):
    def refuses(self, call):
        for count, pairs in BOARDS:
            for strange in strange_sets(count):
                self.assertEqual(ask_board(count, pairs, call(strange)), [[-2]], (count, strange))

    def test_lights_of_press(self):
        self.refuses(lambda strange: press(strange, 0))
        self.refuses(lambda strange: press(strange, 1))

    def test_presses_of_press(self):
        self.refuses(lambda strange: press(0, strange))
        self.refuses(lambda strange: press(1, strange))

    def test_both_sets_of_press(self):
        self.refuses(lambda strange: press(strange, strange))

    def test_ways(self):
        self.refuses(ways)

    def test_least(self):
        self.refuses(least)

    def test_strange_bit_comes_ahead_of_lights_that_cannot_be_put_out(self):
        self.assertEqual(ask_board(2, [(0, 1)], least(1), least(5), ways(5)), [[-3], [-2], [-2]])

    def test_highest_light_is_no_strange_bit(self):
        for count, pairs in BOARDS:
            top = 1 << count - 1
            given = ask_board(count, pairs, press(top, top), press(2 * top - 1, 2 * top - 1), ways(top), least(top))
            self.assertNotIn([-2], given)

    def test_calls_behind_a_refusal_answer_as_if_it_had_not_been_asked(self):
        for count, pairs in BOARDS:
            every = (1 << count) - 1
            calls = [press(every, 1), free(), ways(every), least(every), ways(1), least(1), press(1, every), worst(),
                     odd(), even(), both()]
            plain = ask_board(count, pairs, *calls)
            for strange in (1 << count, every + 1 | 1, LARGEST):
                for refused in (press(strange, 0), press(0, strange), ways(strange), least(strange)):
                    mixed = [one for call in calls for one in (refused, call)]
                    given = ask_board(count, pairs, *mixed)
                    self.assertEqual(given[0::2], [[-2]] * len(calls))
                    self.assertEqual(given[1::2], plain)

    def test_calls_behind_a_refused_worst(self):
        for count, pairs in ((17, path(17)), (24, complete(range(24))), (25, ALL_PAIRS_OF_25), (25, grid(5, 5))):
            every = (1 << count) - 1
            calls = [press(every, 1), free(), ways(every), least(every), ways(1), least(1), odd(), even(), both()]
            mixed = [one for call in calls for one in (worst(), call)]
            given = ask_board(count, pairs, *mixed)
            self.assertEqual(given[0::2], [[-2]] * len(calls))
            self.assertEqual(given[1::2], ask_board(count, pairs, *calls))

    def test_calls_behind_lights_that_cannot_be_put_out(self):
        self.assertEqual(ask_board(2, [(0, 1)], least(1), free(), least(3), least(2), ways(3), press(3, 1)),
                         [[-3], [1], [1, 1], [-3], [2], [0, 0]])
        self.assertEqual(ask_board(2, [(0, 1)], least(1), worst(), least(1), odd(), least(2), even(), least(1), both()),
                         [[-3], [1, 3], [-3], [0, 1], [-3], [0, 1], [-3], [0, 0]])


if __name__ == "__main__":
    unittest.main()
