"""The interface: how calls and answers lie in their lists, and that nothing is changed, kept or printed."""

import contextlib
import inspect
import io
import random
import unittest

from lampbuttons import board
from lampbuttons.board import answers
from tests.helper import (ALL_PAIRS_OF_25, begin, board_text, both, complete, effects, even, fewest, free, grid, joined,
                          least, lit_after, odd, parted, path, press, putting_out, random_pairs, such_sets, ways, worst,
                          worst_of, wrong_for_both, wrong_for_even, wrong_for_odd)


class Unchanging(list):
    """A list that fails where it would be changed, if only for a while."""

    def refuse(self, *values, **named):
        raise AssertionError("what is handed in was changed")

    __setitem__ = __delitem__ = __iadd__ = __imul__ = refuse
    append = extend = insert = pop = remove = clear = sort = reverse = refuse


def some_calls():
    return joined([begin("3\n0 1\n1 2\n"), press(5, 2), free(), ways(7), least(7), ways(8), least(1), worst(), odd(),
                   even(), both()])


def some_call(source, count):
    """Any call but begin; of its sets a few have a bit that is no light's."""
    sets = [source.randrange(1 << count), source.randrange(1 << count), source.randrange(2 << count)]
    lights, presses = source.choice(sets), source.choice(sets)
    return source.choice((press(lights, presses), free(), ways(lights), least(lights), worst(), odd(), even(), both()))


class SlowBoard:
    """A small board that answers by looking through all sets."""

    def __init__(self, count, pairs):
        self.count = count
        self.pairs = pairs
        self.found = effects(range(count), pairs)
        self.quiet = len(putting_out(self.found, 0))
        self.worst = worst_of(fewest(self.found))
        rules = (wrong_for_odd, wrong_for_even, wrong_for_both)
        self.first = [such_sets(wrong_for, range(count), pairs)[0] for wrong_for in rules]

    def answer(self, call):
        if any(members >> self.count for members in call[1:]):
            return [-2]
        if call[0] == 1:
            return [0, lit_after(self.pairs, call[1], call[2])]
        if call[0] == 2:
            return [self.quiet.bit_length() - 1]
        if call[0] == 5:
            return self.worst
        if call[0] > 5:
            return [0, self.first[call[0] - 6]]
        sets = putting_out(self.found, call[1])
        if call[0] == 3:
            return [len(sets)]
        return list(sets[0]) if sets else [-3]


class Layout(unittest.TestCase):
    def test_one_call(self):
        self.assertEqual(answers([0, 1, 49]), [1, 0])
        self.assertEqual(answers([0, 0]), [1, -101])
        self.assertEqual(answers([0, 4, 50, 10, 49, 10]), [1, -102])

    def test_each_call(self):
        head = [0, 5, 50, 10, 48, 32, 49]
        self.assertEqual(answers(head + [1, 0, 1]), [1, 0, 2, 0, 3])
        self.assertEqual(answers(head + [2]), [1, 0, 1, 1])
        self.assertEqual(answers(head + [3, 3]), [1, 0, 1, 2])
        self.assertEqual(answers(head + [4, 3]), [1, 0, 2, 1, 1])
        self.assertEqual(answers(head + [5]), [1, 0, 2, 1, 3])
        self.assertEqual(answers(head + [6]), [1, 0, 2, 0, 1])
        self.assertEqual(answers(head + [7]), [1, 0, 2, 0, 1])
        self.assertEqual(answers(head + [8]), [1, 0, 2, 0, 0])

    def test_refusals_stand_alone(self):
        head = [0, 5, 50, 10, 48, 32, 49]
        self.assertEqual(answers(head + [1, 4, 1, 1, 1, 4, 3, 4, 4, 4, 4, 1]), [1, 0, 1, -2, 1, -2, 1, -2, 1, -2, 1, -3])
        self.assertEqual(answers([0, 2, 49, 55, 5, 2, 5]), [1, 0, 1, -2, 1, 0, 1, -2])

    def test_many_calls(self):
        self.assertEqual(answers(some_calls()), [1, 0, 2, 0, 2, 1, 0, 1, 1, 2, 1, 2, 1, -2, 2, 2, 6, 2, 3, 2, 2, 0, 2,
                                                 2, 0, 2, 2, 0, 1])

    def test_arguments_that_look_like_calls(self):
        self.assertEqual(answers([0, 1, 53, 1, 3, 4, 3, 2, 4, 4, 2, 1, 0, 0]),
                         [1, 0, 2, 0, 7, 1, 1, 2, 1, 4, 1, 0, 2, 0, 0])
        self.assertEqual(answers([0, 1, 52, 3, 5, 4, 8, 5, 1, 6, 7, 8, 4, 6, 6]),
                         [1, 0, 1, 1, 2, 1, 8, 2, 4, 15, 2, 0, 1, 2, 0, 15, 2, 2, 6, 2, 0, 15])

    def test_name_of_the_parameter(self):
        self.assertEqual(list(inspect.signature(answers).parameters), ["calls"])
        self.assertEqual(answers(calls=[0, 1, 49]), [1, 0])

    def test_gives_back_a_list_of_plain_whole_numbers(self):
        given = answers(some_calls())
        self.assertIs(type(given), list)
        self.assertEqual({type(number) for number in given}, {int})


class Mixed(unittest.TestCase):
    def test_all_nine_calls_on_small_boards(self):
        source = random.Random(15)
        for turn in range(60):
            count = source.randint(1, 7)
            pairs = random_pairs(count, source.random(), source)
            slow = SlowBoard(count, pairs)
            asked = [some_call(source, count) for one in range(100)]
            given = parted(answers(joined([begin(board_text(count, pairs))] + asked)))
            self.assertEqual({call[0] for call in asked}, {1, 2, 3, 4, 5, 6, 7, 8})
            self.assertEqual(given, [[0]] + [slow.answer(call) for call in asked], (pairs, asked))

    def test_each_call_answers_in_any_order_as_it_does_alone(self):
        source = random.Random(16)
        for count, pairs in ((16, grid(4, 4)), (17, path(17)), (25, grid(5, 5)), (25, []), (25, ALL_PAIRS_OF_25),
                             (15, random_pairs(15, 0.5, source)), (25, random_pairs(25, 0.5, source))):
            head = begin(board_text(count, pairs))
            asked = [some_call(source, count) for one in range(60)]
            alone = [parted(answers(head + call))[1] for call in asked]
            self.assertEqual(parted(answers(head + joined(asked)))[1:], alone)
            self.assertEqual(parted(answers(head + joined(asked[::-1])))[1:], alone[::-1])


class Keeping(unittest.TestCase):
    def test_what_is_handed_in_is_not_changed(self):
        calls = some_calls()
        before = list(calls)
        answers(calls)
        self.assertEqual(calls, before)

    def test_what_is_handed_in_is_not_changed_for_a_while(self):
        for calls in (some_calls(), [0, 0], [0, 2, 49, 10], begin("3\n0 0")):
            self.assertEqual(answers(Unchanging(calls)), answers(calls))

    def test_same_list_twice(self):
        calls = some_calls()
        self.assertEqual(answers(calls), answers(calls))

    def test_answers_given_back_are_a_new_list(self):
        first = answers(some_calls())
        kept = list(first)
        first.clear()
        self.assertEqual(answers(some_calls()), kept)

    def test_nothing_is_kept_between_boards(self):
        pair = joined([begin("2\n0 1"), free(), least(3), least(1), press(0, 1)])
        single = joined([begin("2"), free(), least(3), least(1), press(0, 1)])
        for turn in range(3):
            self.assertEqual(answers(pair), [1, 0, 1, 1, 2, 1, 1, 1, -3, 2, 0, 3])
            self.assertEqual(answers(single), [1, 0, 1, 0, 2, 2, 3, 2, 1, 1, 2, 0, 1])
            self.assertEqual(answers(begin("2\n0 1") + [5, 6, 7, 8]), [1, 0, 2, 1, 3, 2, 0, 1, 2, 0, 1, 2, 0, 0])
            self.assertEqual(answers(begin("2") + [5, 6, 7, 8]), [1, 0, 2, 2, 3, 2, 0, 3, 2, 0, 0, 2, 0, 3])
            self.assertEqual(answers([0, 0]), [1, -101])

    def test_prints_nothing(self):
        with contextlib.redirect_stdout(io.StringIO()) as out, contextlib.redirect_stderr(io.StringIO()) as err:
            answers(some_calls())
            answers([0, 0])
        self.assertEqual((out.getvalue(), err.getvalue()), ("", ""))

    def test_imports_nothing(self):
        self.assertFalse([name for name, value in vars(board).items() if inspect.ismodule(value)])


class LargestLists(unittest.TestCase):
    def boards(self):
        source = random.Random(12)
        halves = [pair for pair in ALL_PAIRS_OF_25 if pair[0] < 12 <= pair[1]]
        cliques = [pair for first in range(0, 25, 5) for pair in complete(range(first, first + 5))]
        twos = [(light, light + 1) for light in range(0, 24, 2)]
        tails = [pair for pair in ALL_PAIRS_OF_25 if pair[0] >= 9]
        shares = (0.05, 0.1, 0.3, 0.5, 0.7, 0.95)
        return [[], ALL_PAIRS_OF_25, grid(5, 5), path(25), halves, cliques, twos, tails] + [
            random_pairs(25, share, source) for share in shares]

    def test_three_thousand_calls_of_each_kind(self):
        source = random.Random(13)
        for pairs in self.boards():
            head = begin(board_text(25, pairs))
            asked = [source.getrandbits(25) for turn in range(2999)]
            solvable = [lit_after(pairs, 0, source.getrandbits(25)) for turn in range(40)]
            asked[1000:1040] = solvable
            exponent = parted(answers(head + free()))[1][0]
            for call in (ways, least):
                calls = head + joined([call(lights) for lights in asked])
                self.assertLessEqual(len(calls), 30000)
                given = parted(answers(calls))
                self.assertEqual(len(given), 3000)
                for lights, answer in zip(solvable, given[1001:1041]):
                    if call == ways:
                        self.assertEqual(answer, [1 << exponent])
                    else:
                        self.assertEqual(lit_after(pairs, lights, answer[1]), 0)
            self.assertEqual(answers(head + joined([free()] * 2999)), [1, 0] + [1, exponent] * 2999)

    def test_three_thousand_calls_without_numbers(self):
        for pairs in self.boards()[1::4]:
            for count in (16, 25):
                head = begin(board_text(count, [pair for pair in pairs if pair[1] < count]))
                for call in (worst, odd, even, both):
                    once = answers(head + call())
                    self.assertEqual(answers(head + call() * 2999), [1, 0] + once[2:] * 2999)

    def test_three_thousand_mixed_calls(self):
        source = random.Random(17)
        for pairs in self.boards()[::4]:
            for count in (16, 25):
                kept = [pair for pair in pairs if pair[1] < count]
                asked = [some_call(source, count) for turn in range(2999)]
                calls = joined([begin(board_text(count, kept))] + asked)
                given = answers(calls)
                self.assertEqual(len(parted(given)), 3000)
                self.assertEqual(answers(calls), given)

    def test_three_thousand_presses(self):
        source = random.Random(14)
        asked = [(source.getrandbits(25), 1 << source.randrange(25)) for turn in range(2999)]
        calls = begin(board_text(25, ALL_PAIRS_OF_25)) + joined([press(*one) for one in asked])
        every = (1 << 25) - 1
        self.assertEqual(parted(answers(calls)), [[0]] + [[0, lights ^ every] for lights, button in asked])

    def test_three_thousand_refusals(self):
        calls = begin(board_text(25, ALL_PAIRS_OF_25)) + joined([least(1 << 25)] * 2999)
        self.assertEqual(answers(calls), [1, 0] + [1, -2] * 2999)


if __name__ == "__main__":
    unittest.main()
