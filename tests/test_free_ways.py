"""Promises 3 and 4: free and ways."""

import random
import unittest

from tests.helper import ALL_PAIRS_OF_25, ask_board, complete, effects, free, grid, path, putting_out, random_pairs, ways


class Free(unittest.TestCase):
    def exponent(self, count, pairs):
        return ask_board(count, pairs, free())[0]

    def test_one_light_has_only_the_empty_quiet_set(self):
        self.assertEqual(self.exponent(1, []), [0])

    def test_no_neighbours(self):
        for count in range(1, 26):
            self.assertEqual(self.exponent(count, []), [0])

    def test_every_two_neighbours(self):
        for count in range(1, 26):
            self.assertEqual(self.exponent(count, complete(range(count))), [count - 1])

    def test_paths(self):
        for count in range(1, 26):
            self.assertEqual(self.exponent(count, path(count)), [1 if count % 3 == 2 else 0])

    def test_square_grids(self):
        self.assertEqual([self.exponent(side * side, grid(side, side)) for side in range(1, 6)],
                         [[0], [0], [0], [4], [2]])

    def test_small_boards_by_pressing_every_set(self):
        source = random.Random(3)
        for turn in range(60):
            count = source.randint(1, 8)
            pairs = random_pairs(count, source.random(), source)
            quiet = len(putting_out(effects(range(count), pairs), 0))
            given = self.exponent(count, pairs)
            self.assertEqual([1 << given[0]], [quiet], pairs)


class Ways(unittest.TestCase):
    def test_one_light(self):
        self.assertEqual(ask_board(1, [], ways(0), ways(1)), [[1], [1]])

    def test_only_one_quiet_set(self):
        self.assertEqual(ask_board(3, path(3), *[ways(lights) for lights in range(8)]), [[1]] * 8)

    def test_two_neighbours(self):
        self.assertEqual(ask_board(2, [(0, 1)], *[ways(lights) for lights in range(4)]), [[2], [0], [0], [2]])

    def test_most_quiet_sets(self):
        every = (1 << 25) - 1
        self.assertEqual(ask_board(25, ALL_PAIRS_OF_25, ways(0), ways(every), ways(1), ways(every - 1)),
                         [[1 << 24], [1 << 24], [0], [0]])

    def test_five_by_five(self):
        self.assertEqual(ask_board(25, grid(5, 5), ways(0), ways((1 << 25) - 1), ways(1), ways(2)),
                         [[4], [4], [0], [0]])

    def test_all_lit_can_always_be_put_out(self):
        source = random.Random(4)
        for turn in range(200):
            count = source.randint(1, 25)
            pairs = random_pairs(count, source.random(), source)
            given = ask_board(count, pairs, free(), ways((1 << count) - 1), ways(0))
            self.assertEqual(given[1:], [[1 << given[0][0]]] * 2)

    def test_small_boards_by_pressing_every_set(self):
        source = random.Random(5)
        boards = [(count, random_pairs(count, source.random(), source)) for count in (1, 2, 3, 4, 5, 6, 7, 8) * 4]
        boards += [(6, complete(range(6))), (8, complete(range(8))), (7, []), (6, grid(2, 3)), (8, grid(2, 4))]
        for count, pairs in boards:
            found = list(effects(range(count), pairs).values())
            given = ask_board(count, pairs, *[ways(lights) for lights in range(1 << count)])
            self.assertEqual(given, [[found.count(lights)] for lights in range(1 << count)], pairs)


if __name__ == "__main__":
    unittest.main()
