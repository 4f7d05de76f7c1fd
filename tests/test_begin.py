"""Promise 1 and the form of a board's text."""

import unittest

from tests.helper import ALL_PAIRS_OF_25, ask, begin, board_text, free, press


class Boards(unittest.TestCase):
    def accepts(self, text, lights):
        """The text is a board with just this many lights."""
        every = (1 << lights) - 1
        self.assertEqual(ask(begin(text), press(every, 0), press(every + 1, 0)), [[0], [0, every], [-2]], text)

    def test_one_light(self):
        self.accepts("1", 1)
        self.accepts("1\n", 1)

    def test_every_number_of_lights(self):
        for lights in range(1, 26):
            self.accepts(str(lights), lights)
            self.accepts(f"{lights}\n", lights)

    def test_with_and_without_a_newline_at_the_end(self):
        self.accepts("3\n0 1\n1 2", 3)
        self.accepts("3\n0 1\n1 2\n", 3)

    def test_pairs_in_any_order(self):
        self.accepts("12\n10 11\n0 11\n9 10\n0 1", 12)

    def test_every_two_neighbours(self):
        text = board_text(25, ALL_PAIRS_OF_25)
        self.accepts(text, 25)
        self.accepts(text + "\n", 25)
        every = (1 << 25) - 1
        for button in range(25):
            self.assertEqual(ask(begin(text), press(0, 1 << button))[1], [0, every])

    def test_no_neighbours(self):
        self.assertEqual(ask(begin("25"), free(), press(0, 1 << 24)), [[0], [0], [0, 1 << 24]])

    def test_each_pair_alone_makes_just_these_two_neighbours(self):
        for a, b in ALL_PAIRS_OF_25:
            calls = [press(0, 1 << button) for button in range(25)]
            turned = [[0, 1 << button] for button in range(25)]
            turned[a] = turned[b] = [0, 1 << a | 1 << b]
            self.assertEqual(ask(begin(f"25\n{a} {b}"), *calls), [[0]] + turned)


class NoBoards(unittest.TestCase):
    def refuses(self, text, line):
        self.assertEqual(ask(begin(text)), [[-100 - line]], text)

    def test_no_line_at_all(self):
        self.refuses("", 1)

    def test_wrong_first_line(self):
        for first in ("0", "26", "27", "30", "99", "100", "250", "01", "05", "025", "00", "", " ", " 5", "5 ", "5 5",
                      "+5", "-5", "5.", "5,", "a", "5a", "a5", "0x5", "5\r", "\r", "5\t", "\t5", "5\x00", "/", ":",
                      "2/", "2:", "1_0", "#", "0 1"):
            for rest in ("", "\n", "\n0 1", "\n0 1\n"):
                self.refuses(first + rest, 1)

    def test_bytes_that_are_no_ascii(self):
        self.refuses(b"\xff", 1)
        self.refuses(b"\xb2\n0 1", 1)
        self.refuses(b"5\xa0", 1)
        self.refuses(b"\xef\xbb\xbf5", 1)
        self.refuses(b"5\n0\xa01", 2)
        self.refuses(b"5\n0 \xb2", 2)

    def test_newlines_alone(self):
        self.refuses("\n", 1)
        self.refuses("\n\n", 1)
        self.refuses("\n5", 1)
        self.refuses("\n5\n0 1", 1)

    def test_number_as_long_as_a_text_may_be(self):
        self.refuses("1" * 4096, 1)
        self.refuses("0" * 4096, 1)
        self.refuses("5\n0 " + "1" * 4092, 2)
        self.refuses("5\n" + "0" * 4094, 2)

    def test_newlines_as_many_as_a_text_may_have(self):
        self.refuses("\n" * 4096, 1)
        self.refuses("5" + "\n" * 4095, 2)

    def test_wrong_later_line(self):
        for wrong in ("0 5", "4 5", "5 6", "0 25", "0 10", "1 0", "4 3", "0 0", "3 3", "5 5", "0  1", " 0 1", "0 1 ",
                      "0 1 2", "00 1", "0 01", "0 00", "01 2", "1 02", "", " ", "  ", "0", "0 ", " 1", "01", "0,1",
                      "0\t1", "0-1", "-1 0", "-1 1", "+0 1", "a b", "0 a", "a 1", "0 1\r", "0 1a", "0 /", "0 :",
                      "0 1.", "0 1\x00", "# 0 1"):
            self.refuses(f"5\n{wrong}\n2 3", 2)
            self.refuses(f"5\n{wrong}\n2 3\n", 2)
            self.refuses(f"5\n2 4\n{wrong}\n2 3", 3)
            self.refuses(f"5\n2 4\n2 3\n{wrong}\n", 4)
            if wrong != "":
                self.refuses(f"5\n2 4\n2 3\n{wrong}", 4)

    def test_more_than_one_newline_at_the_end(self):
        self.refuses("5\n\n", 2)
        self.refuses("5\n\n\n", 2)
        self.refuses("5\n0 1\n\n", 3)
        self.refuses("5\n0 1\n\n\n", 3)
        self.refuses("5\n0 1\n1 2\n\n", 4)

    def test_same_two_twice(self):
        self.refuses("5\n0 1\n0 1", 3)
        self.refuses("5\n0 1\n0 1\n", 3)
        self.refuses("5\n0 1\n1 2\n2 3\n1 2\n3 4", 5)
        self.refuses("25\n23 24\n0 24\n23 24", 4)

    def test_each_pair_of_the_largest_board_twice(self):
        text = board_text(25, ALL_PAIRS_OF_25)
        for a, b in ALL_PAIRS_OF_25:
            self.refuses(f"{text}\n{a} {b}\n", 302)

    def test_same_two_the_other_way_round(self):
        self.refuses("5\n0 1\n1 0", 3)

    def test_light_that_is_not_there_for_every_number_of_lights(self):
        for lights in range(1, 26):
            self.refuses(f"{lights}\n0 {lights}", 2)
            self.refuses(f"{lights}\n{lights - 1} {lights}", 2)

    def test_first_of_several_wrong_lines_counts(self):
        self.refuses("0\n0 0\n9 9", 1)
        self.refuses("5\n0 1\n1 1\n0 1\nx", 3)
        self.refuses("5\n0 1\n0 1\n1 1\nx", 3)
        self.refuses("5\n0 1\n1 2\n\n0 1\n4 4", 4)
        self.refuses("\nx\n0", 1)
        self.refuses("5\n0 1\n0 2\n0 3\n0 4\n0 5\n0 1", 6)

    def test_many_lines_ahead_of_the_wrong_one(self):
        text = board_text(25, ALL_PAIRS_OF_25)
        self.refuses(text + "\n\n", 302)
        self.refuses(text + "\n24 25", 302)


if __name__ == "__main__":
    unittest.main()
