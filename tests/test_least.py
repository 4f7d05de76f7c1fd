"""Promise 5: least."""

import random
import unittest

from tests.helper import (ALL_PAIRS_OF_25, ask_board, complete, effects, grid, least, lit_after, path, putting_out,
                          random_pairs, ways)


def expected(found, lights):
    sets = putting_out(found, lights)
    return list(sets[0]) if sets else [-3]


class Least(unittest.TestCase):
    def test_one_light(self):
        self.assertEqual(ask_board(1, [], least(0), least(1)), [[0, 0], [1, 1]])

    def test_no_lights_lit_takes_no_button(self):
        for count, pairs in ((1, []), (2, [(0, 1)]), (9, grid(3, 3)), (16, grid(4, 4)), (25, ALL_PAIRS_OF_25)):
            self.assertEqual(ask_board(count, pairs, least(0)), [[0, 0]])

    def test_lights_that_cannot_be_put_out(self):
        self.assertEqual(ask_board(2, [(0, 1)], least(1), least(2)), [[-3], [-3]])
        self.assertEqual(ask_board(25, ALL_PAIRS_OF_25, least(1), least((1 << 25) - 2)), [[-3], [-3]])
        self.assertEqual(ask_board(25, grid(5, 5), least(1), least(2)), [[-3], [-3]])

    def test_least_number_of_several(self):
        self.assertEqual(ask_board(2, [(0, 1)], least(3)), [[1, 1]])
        self.assertEqual(ask_board(25, ALL_PAIRS_OF_25, least((1 << 25) - 1)), [[1, 1]])
        self.assertEqual(ask_board(25, complete(range(20, 25)), least(31 << 20)), [[1, 1 << 20]])
        self.assertEqual(ask_board(25, complete(range(14, 19)), least(31 << 14)), [[1, 1 << 14]])

    def test_fewest_buttons_come_ahead_of_the_least_number(self):
        # In a star with an odd number of points, all points together turn what the middle turns alone.
        for middle in (3, 15, 17, 23):
            star = [(point, middle) for point in range(middle)]
            every = (1 << middle + 1) - 1
            self.assertEqual(lit_after(star, every, every >> 1), 0)
            self.assertEqual(ask_board(middle + 1, star, least(every)), [[1, 1 << middle]])

    def test_no_neighbours(self):
        source = random.Random(6)
        for lights in [(1 << 25) - 1, 1 << 24, 1] + [source.getrandbits(25) for turn in range(20)]:
            self.assertEqual(ask_board(25, [], least(lights)), [[bin(lights).count("1"), lights]])

    def test_square_grids_all_lit(self):
        given = [ask_board(side * side, grid(side, side), least((1 << side * side) - 1))[0] for side in range(1, 6)]
        self.assertEqual([answer[0] for answer in given], [1, 4, 5, 4, 15])
        for side, answer in enumerate(given, start=1):
            self.assertEqual(lit_after(grid(side, side), (1 << side * side) - 1, answer[1]), 0)

    def test_small_boards_by_pressing_every_set(self):
        source = random.Random(7)
        boards = [(count, random_pairs(count, source.random(), source)) for count in (1, 2, 3, 4, 5, 6, 7, 8) * 4]
        boards += [(6, complete(range(6))), (8, complete(range(8))), (7, []), (8, path(8)), (8, grid(2, 4))]
        for count, pairs in boards:
            found = effects(range(count), pairs)
            given = ask_board(count, pairs, *[least(lights) for lights in range(1 << count)])
            self.assertEqual(given, [expected(found, lights) for lights in range(1 << count)], pairs)

    def test_large_boards_of_small_parts(self):
        # Parts that share no neighbours are put out apart, so the least set is that of each part together.
        source = random.Random(8)
        for turn in range(25):
            count = source.randint(15, 25)
            mixed = source.sample(range(count), count)
            parts = [sorted(mixed[place:place + 6]) for place in range(0, count, 6)]
            pairs = [pair for part in parts for pair in complete(part) if source.random() < turn / 24]
            found = [effects(part, pairs) for part in parts]
            asked = [[source.choice(list(one.values())) for one in found] for ask in range(12)]
            given = ask_board(count, pairs, *[least(sum(lights)) for lights in asked])
            for lights, answer in zip(asked, given):
                sets = [putting_out(one, lit)[0] for one, lit in zip(found, lights)]
                self.assertEqual(answer, [sum(one[0] for one in sets), sum(one[1] for one in sets)])

    def test_large_boards_by_going_through_the_quiet_sets(self):
        source = random.Random(9)
        for count, pairs in [(25, grid(5, 5)), (24, grid(4, 6)), (23, path(23)), (16, grid(4, 4)), (17, path(17))] + [
                (count, random_pairs(count, 0.5, source)) for count in (15, 16, 17, 18, 20, 24, 25, 25)]:
            quiet = quiet_sets(count, pairs)
            presses = [source.getrandbits(count) for turn in range(20)]
            lights = [lit_after(pairs, 0, one) for one in presses]
            given = ask_board(count, pairs, *[least(lit) for lit in lights])
            for one, answer in zip(presses, given):
                self.assertEqual(tuple(answer), min((bin(one ^ other).count("1"), one ^ other) for other in quiet))

    def test_refused_just_where_there_is_no_way(self):
        source = random.Random(10)
        for turn in range(20):
            count = source.randint(10, 25)
            pairs = random_pairs(count, source.choice((0.1, 0.3, 0.5, 0.9)), source)
            asked = [source.getrandbits(count) for one in range(20)]
            found = ask_board(count, pairs, *[ways(lights) for lights in asked])
            given = ask_board(count, pairs, *[least(lights) for lights in asked])
            for lights, number, answer in zip(asked, found, given):
                if number == [0]:
                    self.assertEqual(answer, [-3])
                else:
                    self.assertEqual(bin(answer[1]).count("1"), answer[0])
                    self.assertEqual(lit_after(pairs, lights, answer[1]), 0)


def quiet_sets(count, pairs):
    """All quiet sets, by eliminating rows of (lights turned, buttons pressed)."""
    rows = [(lit_after(pairs, 0, 1 << button), 1 << button) for button in range(count)]
    quiet = [0]
    for light in range(count):
        leading = [row for row in rows if row[0] >> light & 1]
        rest = [row for row in rows if not row[0] >> light & 1]
        rows = rest + [(row[0] ^ leading[0][0], row[1] ^ leading[0][1]) for row in leading[1:]]
    for turned, buttons in rows:
        assert turned == 0
        quiet += [other ^ buttons for other in quiet]
    return quiet


if __name__ == "__main__":
    unittest.main()
