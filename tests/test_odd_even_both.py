"""Promises 7 to 9: odd, even and both."""

import random
import unittest

from lampbuttons.board import Board, first_making
from tests.helper import (ALL_PAIRS_OF_25, ask_board, both, complete, even, grid, lit_after, odd, path, random_pairs,
                          such_sets, wrong_for_both, wrong_for_even, wrong_for_odd)

RULES = ((odd, wrong_for_odd), (even, wrong_for_even), (both, wrong_for_both))


def bits(lights):
    return sum(1 << light for light in lights)


def first_of_each(lights, pairs):
    """The first odd, even and both set of these lights, by looking through all sets."""
    return [such_sets(wrong_for, lights, pairs)[0] for call, wrong_for in RULES]


def neutral_sets(wrong_for, count, pairs):
    """All sets that may be added to any set, or taken from it, and change nothing in who is wrong."""
    none = bits(wrong_for(range(count), pairs, 0))
    rows = [(bits(wrong_for(range(count), pairs, 1 << light)) ^ none, 1 << light) for light in range(count)]
    for light in range(count):
        leading = [row for row in rows if row[0] >> light & 1]
        rest = [row for row in rows if not row[0] >> light & 1]
        rows = rest + [(row[0] ^ leading[0][0], row[1] ^ leading[0][1]) for row in leading[1:]]
    neutral = [0]
    for changed, members in rows:
        assert changed == 0
        neutral += [other ^ members for other in neutral]
    return neutral


class OddEvenBoth(unittest.TestCase):
    def given(self, count, pairs):
        """The three sets, behind the 0 that each answer begins with."""
        parts = ask_board(count, pairs, odd(), even(), both())
        self.assertEqual([[part[0], len(part)] for part in parts], [[0, 2]] * 3, pairs)
        return [part[1] for part in parts]

    def test_one_light(self):
        self.assertEqual(self.given(1, []), [1, 0, 1])

    def test_two_neighbours(self):
        self.assertEqual(self.given(2, [(0, 1)]), [1, 1, 0])

    def test_path_of_three(self):
        self.assertEqual(self.given(3, path(3)), [2, 2, 1])

    def test_no_neighbours(self):
        for count in range(1, 26):
            every = (1 << count) - 1
            self.assertEqual(self.given(count, []), [every, 0, every])

    def test_every_two_neighbours(self):
        # With an odd number of lights the empty set is even and light 0 alone is both; else the other way round.
        for count in range(1, 26):
            self.assertEqual(self.given(count, complete(range(count))), [1, 0, 1] if count % 2 == 1 else [1, 1, 0])

    def test_all_have_an_even_number_of_neighbours(self):
        # Each in the set or not has an even number of neighbours in the part that is all: the empty set is even.
        for count in (3, 5, 8, 24, 25):
            ring = path(count) + [(0, count - 1)]
            self.assertEqual(self.given(count, ring)[1], 0)
            self.assertEqual(wrong_for_both(range(count), ring, self.given(count, ring)[2]), [])

    def test_all_have_an_odd_number_of_neighbours(self):
        for count in (2, 4, 12, 24):
            twos = [(light, light + 1) for light in range(0, count, 2)]
            self.assertEqual(self.given(count, twos)[2], 0)
            self.assertEqual(self.given(count, twos)[1], bits(range(0, count, 2)))

    def test_only_one_set(self):
        # Even is not here: what lies outside an even set is an even set too.
        source = random.Random(31)
        alone = {odd: 0, both: 0}
        for turn in range(60):
            count = source.randint(1, 7)
            pairs = random_pairs(count, source.random(), source)
            for call, wrong_for in (RULES[0], RULES[2]):
                sets = such_sets(wrong_for, range(count), pairs)
                if len(sets) == 1:
                    self.assertEqual(ask_board(count, pairs, call()), [[0, sets[0]]], pairs)
                    alone[call] += 1
        self.assertGreater(min(alone.values()), 10)

    def test_only_one_even_set_and_what_lies_outside_it(self):
        source = random.Random(32)
        found = 0
        for turn in range(60):
            count = source.randint(1, 7)
            pairs = random_pairs(count, source.random(), source)
            sets = such_sets(wrong_for_even, range(count), pairs)
            if len(sets) == 2:
                self.assertEqual(ask_board(count, pairs, even()), [[0, sets[0]]], pairs)
                found += 1
        self.assertGreater(found, 10)

    def test_many_sets(self):
        # Of these boards each has many sets of a kind, and the first is not the one with the fewest members.
        for count, pairs in ((6, complete(range(1, 6))), (8, complete(range(2, 8))), (8, complete(range(4, 8))),
                             (7, complete(range(3)) + complete(range(3, 7))), (8, [(0, 7), (1, 6), (2, 5), (3, 4)])):
            self.assertGreater(max(len(such_sets(wrong_for, range(count), pairs)) for call, wrong_for in RULES), 7)
            self.assertEqual(self.given(count, pairs), first_of_each(range(count), pairs), pairs)

    def test_first_is_the_least_number_not_the_fewest_members(self):
        # In a star with an odd number of points the middle alone is odd, and so are all the points.
        star = [(point, 5) for point in range(5)]
        self.assertEqual(such_sets(wrong_for_odd, range(6), star), [31, 32])
        self.assertEqual(self.given(6, star)[0], 31)
        star = [(point, 23) for point in range(23)]
        self.assertEqual(self.given(24, star)[0], (1 << 23) - 1)

    def test_small_boards_by_looking_through_all_sets(self):
        source = random.Random(33)
        boards = [(count, random_pairs(count, source.random(), source)) for count in (1, 2, 3, 4, 5, 6, 7, 8) * 12]
        boards += [(9, grid(3, 3)), (8, grid(2, 4)), (9, path(9)), (8, complete((0, 3, 4, 6, 7)))]
        for count, pairs in boards:
            self.assertEqual(self.given(count, pairs), first_of_each(range(count), pairs), pairs)

    def test_every_board_of_four_lights(self):
        every_two = complete(range(4))
        for number in range(1 << len(every_two)):
            pairs = [pair for place, pair in enumerate(every_two) if number >> place & 1]
            self.assertEqual(self.given(4, pairs), first_of_each(range(4), pairs), pairs)

    def test_large_boards_of_small_parts(self):
        # Who is wrong in one part has nothing to do with another part, so the first set is that of each part together.
        source = random.Random(34)
        for turn in range(30):
            count = source.randint(15, 25)
            mixed = source.sample(range(count), count)
            parts = [sorted(mixed[place:place + 6]) for place in range(0, count, 6)]
            pairs = sorted(pair for part in parts for pair in complete(part) if source.random() < turn / 29)
            found = [first_of_each(part, pairs) for part in parts]
            self.assertEqual(self.given(count, pairs), [sum(one) for one in zip(*found)], pairs)

    def test_large_boards_by_going_through_all_such_sets(self):
        source = random.Random(35)
        boards = [(25, grid(5, 5)), (24, grid(4, 6)), (25, path(25)), (16, grid(4, 4)), (17, path(17))]
        boards += [(count, random_pairs(count, share, source)) for count in (10, 16, 17, 20, 24, 25, 25)
                   for share in (0.2, 0.5, 0.8)]
        for count, pairs in boards:
            for place, (call, wrong_for) in enumerate(RULES):
                answer = self.given(count, pairs)[place]
                self.assertEqual(wrong_for(range(count), pairs, answer), [], (call, pairs))
                neutral = neutral_sets(wrong_for, count, pairs)
                self.assertEqual(answer, min(answer ^ other for other in neutral), (call, pairs))

    def test_there_is_always_one(self):
        source = random.Random(36)
        for turn in range(150):
            count = source.randint(1, 25)
            pairs = random_pairs(count, source.random(), source)
            for (call, wrong_for), answer in zip(RULES, self.given(count, pairs)):
                self.assertEqual(answer >> count, 0)
                self.assertEqual(wrong_for(range(count), pairs, answer), [], pairs)

    def test_odd_puts_out_all_lights(self):
        for count, pairs in ((25, grid(5, 5)), (25, path(25)), (25, ALL_PAIRS_OF_25), (16, grid(4, 4))):
            self.assertEqual(lit_after(pairs, (1 << count) - 1, self.given(count, pairs)[0]), 0)


class NoneSuch(unittest.TestCase):
    """No text tells a board without such a set, so these are made by hand: a button that only turns another light."""

    def test_no_rows_make_up_the_lights(self):
        self.assertIsNone(first_making([], 1))
        self.assertIsNone(first_making([3, 3], 1))
        self.assertEqual(first_making([3, 3], 3), 1)
        self.assertEqual(first_making([3, 1], 2), 3)
        self.assertEqual(first_making([3, 1], 0), 0)

    def test_refused(self):
        board = Board()
        board.turns = [1, 1]
        self.assertEqual(board.odd(), [-3])


if __name__ == "__main__":
    unittest.main()
