"""The call read: right lines, and the faults of lines."""

import itertools
import unittest

from helper import (GREAT, HIGH, SMALL, WIDE, ask, ask_by, gaps_counted, hall_text, line_fault, read, rules,
                    said_position, signs)


# All rows so wide, with no king or with one.
def all_rows(wide):
    return ["".join(cells) for cells in itertools.product(".hmK", repeat=wide) if cells.count("K") < 2]


class ReadTest(unittest.TestCase):

    def assert_reads(self, text, line, hunters, men, king, side):
        self.assertEqual(ask_by(text, read(line)), said_position(hunters, men, king, side), line)

    # The fault is where the mark ^ stands in the line, which is taken out of it first.
    def assert_fault(self, text, line, kind=1):
        self.assertEqual(line.count("^"), 1, line)
        told = ask_by(text, read(line.replace("^", "")))
        self.assertEqual(told, line_fault(kind, line.index("^")), line)


class RightLines(ReadTest):

    def test_ordinary(self):
        self.assert_reads(SMALL, "2h2/2m2/hmKmh/2m2/2h2 h", [2, 26, 30, 54], [15, 27, 29, 41], 28, 0)
        self.assert_reads(SMALL, "2h2/2m2/hmKmh/2m2/2h2 k", [2, 26, 30, 54], [15, 27, 29, 41], 28, 1)
        self.assert_reads(WIDE, "13/6h6/5hK6/13/12m h", [31, 45], [12], 32, 0)

    def test_lists_are_rising_and_not_in_the_order_of_the_line(self):
        self.assert_reads(SMALL, "h1h2/hm3/mh3/5/3mh k", [4, 27, 39, 52, 54], [3, 26, 40], 255, 1)

    def test_without_a_king(self):
        self.assert_reads(SMALL, "5/5/5/5/5 h", [], [], 255, 0)
        self.assert_reads(SMALL, "5/5/5/5/5 k", [], [], 255, 1)
        self.assert_reads(GREAT, "/".join(["13"] * 13) + " k", [], [], 255, 1)
        self.assert_reads(SMALL, "2h2/5/5/5/4m h", [54], [4], 255, 0)

    def test_numbers_of_one_digit_and_of_two(self):
        self.assert_reads(WIDE, "1h11/2h10/h12/9h3/10h2 h", [10, 22, 26, 41, 53], [], 255, 0)
        self.assert_reads(WIDE, "11m1/12m/m12/1m1m9/1mm10 k", [], [1, 2, 14, 16, 26, 51, 63], 255, 1)
        self.assert_reads(WIDE, "3h9/13/6K6/13/13 h", [55], [], 32, 0)

    def test_high_grounds(self):
        self.assert_reads(HIGH, "1h3/5/5/5/5/5/5/5/5/5/5/5/3K1 h", [157], [], 3, 0)

    def test_full_rows(self):
        rows = ["hhhhhhhhhhhhh"] * 6 + ["mmmmmmKmmmmmm"] + ["hhhhhhhhhhhhh"] * 6
        king_row = [13 * 6 + x for x in range(13)]
        self.assert_reads(GREAT, "/".join(rows) + " h", [n for n in range(169) if n not in king_row],
                          [n for n in king_row if n != 84], 84, 0)

    def test_the_king_on_the_seat_and_on_exits(self):
        self.assert_reads(SMALL, "5/5/2K2/5/5 h", [], [], 28, 0)
        self.assert_reads(SMALL, "4K/5/5/5/5 h", [], [], 56, 0)
        self.assert_reads(SMALL, "5/5/5/5/K4 k", [], [], 0, 1)
        self.assert_reads(HIGH, "K4/5/5/5/5/5/5/5/5/5/5/5/5 k", [], [], 156, 1)

    def test_walls_are_counted(self):
        self.assert_reads(SMALL, "5/5/5/5/2h2 h", [2], [], 255, 0)
        self.assert_reads(SMALL, "2h2/5/5/5/5 h", [54], [], 255, 0)
        walled = hall_text(["#####", ".....", "..#..", ".....", "....."], [".....", "..h..", ".K...", ".....", "....."])
        self.assert_reads(walled, "5/hhhhh/hh1hh/5/5 h", [26, 27, 29, 30, 39, 40, 41, 42, 43], [], 255, 0)


class Kind1(ReadTest):

    def test_empty_line(self):
        self.assert_fault(SMALL, "^")

    def test_cut_short_anywhere(self):
        for text, line in ((SMALL, "2h2/2m2/hmKmh/2m2/2h2 h"), (WIDE, "1h11/2h10/h12/9h3/10h2 k")):
            for place in range(len(line)):
                self.assertEqual(ask_by(text, read(line[:place])), line_fault(1, place))

    def test_bytes_behind_the_end(self):
        for more in ("h", " ", "\n", "/", "0", "\0", "\xff", "5/5/5/5/5 h"):
            self.assert_fault(SMALL, "5/5/5/5/5 h^" + more)

    def test_a_byte_that_goes_on_nowhere(self):
        line = "2h2/2m2/hmKmh/2m2/2h2 h"
        for place in range(len(line)):
            for byte in (0, 9, 10, 46, 127, 128, 128 + ord(line[place]), 255):
                wrong = signs(line)
                wrong[place] = byte
                self.assertEqual(ask_by(SMALL, read(wrong)), line_fault(1, place))

    def test_numbers_too_great_for_their_row(self):
        for line in ("^6/5/5/5/5 h", "5/^9/5/5/5 h", "5/h^5/5/5/5 h", "5/2h^3/5/5/5 h", "5/hhhhh^1/5/5/5 h",
                     "1^0/5/5/5/5 h", "5^0/5/5/5/5 h", "1^3/5/5/5/5 h"):
            self.assert_fault(SMALL, line)
        for line in ("1^4/13/13/13/13 h", "1^9/13/13/13/13 h", "13^0/13/13/13/13 h", "h1^3/13/13/13/13 h",
                     "2^0/13/13/13/13 h", "3h1^0/13/13/13/13 h", "4h^9/13/13/13/13 h", "13/13/13/13/12h^1 h"):
            self.assert_fault(WIDE, line)

    def test_a_0(self):
        for line in ("^0/5/5/5/5 h", "^05/5/5/5/5 h", "h^04/5/5/5/5 h", "hhhhh^0/5/5/5/5 h", "2h^02/5/5/5/5 h"):
            self.assert_fault(SMALL, line)

    def test_a_number_behind_a_number(self):
        for line in ("2^3/5/5/5/5 h", "1^1h2/5/5/5/5 h", "4^1/5/5/5/5 h", "h1^1h1/5/5/5/5 h", "5/5/5/5/3^2 h"):
            self.assert_fault(SMALL, line)
        for line in ("6^7/13/13/13/13 h", "10^3/13/13/13/13 h", "12^1/13/13/13/13 h",
                     "2^1h10/13/13/13/13 h", "11^2/13/13/13/13 h"):
            self.assert_fault(WIDE, line)

    def test_rows_too_short_or_too_long(self):
        for line in ("4^/5/5/5/5 h", "^/5/5/5/5 h", "hhhh^/5/5/5/5 h", "2h1^/5/5/5/5 h", "hhhhh^h/5/5/5/5 h",
                     "5^h/5/5/5/5 h", "4h^m/5/5/5/5 h", "5/5/5/5/4^ h", "5/5/5/5/5^h h", "5/5/5/5/^ h",
                     "5/5/4^ h", "5^K/5/5/5/5 h"):
            self.assert_fault(SMALL, line)
        self.assert_fault(WIDE, "1^/13/13/13/13 h")

    def test_too_few_or_too_many_rows(self):
        for line in ("5/5/5/5^ h", "5^ h", "5/5/5/5/5^/5 h", "5/5/5/5/5^/ h", "5/5/5/5/^", "^ h", "h^"):
            self.assert_fault(SMALL, line)
        self.assert_fault(WIDE, "13/13/13/13/13^/13 h")
        self.assert_fault(HIGH, "5/5/5/5/5^ h")

    def test_a_second_king(self):
        for line in ("K^K3/5/5/5/5 h", "K4/5/2^K2/5/5 h", "5/1K1^K1/5/5/5 h", "K4/^K4/K4/5/5 h", "5/5/5/5/K3^K k"):
            self.assert_fault(SMALL, line)

    def test_whose_turn(self):
        for line in ("5/5/5/5/5 ^", "5/5/5/5/5^", "5/5/5/5/5 ^m", "5/5/5/5/5 ^K", "5/5/5/5/5 ^H", "5/5/5/5/5 ^0",
                     "5/5/5/5/5 ^ h", "5/5/5/5/5^\nh", "5/5/5/5/5^h", "5/5/5/5/5 h^k", "5/5/5/5/5^/h"):
            self.assert_fault(SMALL, line)

    def test_other_signs(self):
        for sign in "HMk.SX#-+x":
            self.assert_fault(SMALL, "5/2^" + sign + "2/5/5/5 h")
        for start in ("^ 5", "^\n5", "^/5"):
            self.assert_fault(SMALL, start + "/5/5/5/5 h")

    def test_lines_of_more_than_512_bytes(self):
        line = "5/5/5/5/5 h"
        for length in (512, 513, 514, 1000):
            self.assert_fault(SMALL, line + "^" + "h" * (length - len(line)))
            self.assert_fault(SMALL, "hhhhh^" + "h" * (length - 5))
            self.assert_fault(SMALL, "1^" + "1" * (length - 1))
            self.assert_fault(SMALL, "^" + "/" * length)

    def test_counts_before_kind_2(self):
        self.assert_fault(SMALL, "3hh/5/2h2/5/mm3 h^h")
        self.assert_fault(SMALL, "3h1/5/5/5/5^/")

    # Told row by row, by all that may stand in a row: a line's row goes on as long as one of these begins so.
    def test_every_sign_behind_every_beginning_of_a_row(self):
        begun = {}
        for cells in all_rows(5):
            whole = gaps_counted(cells) + "/"
            for length in range(len(whole)):
                begun.setdefault(whole[:length], set()).add(whole[length])
        for beginning, allowed in begun.items():
            calls = [read("5/" + beginning + sign) for sign in "0123456789hmK/ k"]
            for sign, told in zip("0123456789hmK/ k", ask(rules(SMALL), *calls)[1:]):
                place = len("5/" + beginning) + (1 if sign in allowed else 0)
                self.assertEqual(told, line_fault(1, place), (beginning, sign))


class Kind2(ReadTest):

    def test_on_a_wall(self):
        for piece in "hmK":
            self.assert_fault(SMALL, "3^" + piece + "1/5/5/5/5 h", 2)
            self.assert_fault(SMALL, "5/5/5/5/1^" + piece + "3 k", 2)
            self.assert_fault(WIDE, "13/13/13/13/^" + piece + "12 k", 2)
            self.assert_fault(HIGH, "5/5/5/5/5/5/5/5/5/5/5/5/4^" + piece + " k", 2)

    def test_on_the_seat(self):
        for piece in "hm":
            self.assert_fault(SMALL, "5/5/2^" + piece + "2/5/5 h", 2)
            self.assert_fault(WIDE, "13/13/6^" + piece + "6/13/13 h", 2)

    def test_on_an_exit(self):
        for piece in "hm":
            self.assert_fault(SMALL, "4^" + piece + "/5/5/5/5 h", 2)
            self.assert_fault(SMALL, "5/5/5/5/^" + piece + "4 k", 2)
            self.assert_fault(WIDE, "12^" + piece + "/13/13/13/13 h", 2)

    def test_the_first_of_several(self):
        self.assert_fault(SMALL, "hhh^hh/5/2h2/5/hh3 h", 2)
        self.assert_fault(SMALL, "hhh1^m/5/2h2/5/hh3 h", 2)
        self.assert_fault(SMALL, "hhh1K/5/hh^hhh/5/hh3 h", 2)
        self.assert_fault(SMALL, "hhh2/5/2K2/5/1^h3 h", 2)

    def test_by_rules_in_force_now(self):
        free = hall_text(["....."] * 5, ["h....", ".K...", ".....", ".....", "....."])
        told = ask(rules(SMALL), read("5/5/2h2/5/5 h"), rules(free), read("5/5/2h2/5/5 h"))
        self.assertEqual(told[1], line_fault(2, 5))
        self.assertEqual(told[3], said_position([28], [], 255, 0))


if __name__ == "__main__":
    unittest.main()
