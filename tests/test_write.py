"""The call write: right positions, and those that are not; and lines and positions are one another's."""

import itertools
import unittest

from helper import (GREAT, HALLS, HIGH, SMALL, WIDE, ask, ask_by, begin, gaps_counted, read, rules, said_line,
                    said_position, signs, write)

MOST = 4294967295


class WriteTest(unittest.TestCase):

    def assert_line(self, text, hunters, men, king, side, line):
        self.assertEqual(ask_by(text, write(hunters, men, king, side)), said_line(line))

    def assert_refused(self, text, hunters, men, king, side):
        self.assertEqual(ask_by(text, write(hunters, men, king, side)), [-8], (hunters, men, king, side))


class RightPositions(WriteTest):

    def test_ordinary(self):
        self.assert_line(SMALL, [2, 26, 30, 54], [15, 27, 29, 41], 28, 0, "2h2/2m2/hmKmh/2m2/2h2 h")
        self.assert_line(SMALL, [2, 26, 30, 54], [15, 27, 29, 41], 28, 1, "2h2/2m2/hmKmh/2m2/2h2 k")
        self.assert_line(WIDE, [10, 22, 26, 41, 53], [], 32, 0, "1h11/2h10/h5K6/9h3/10h2 h")
        self.assert_line(HIGH, [157], [4 + 13], 3, 1, "1h3/5/5/5/5/5/5/5/5/5/5/4m/3K1 k")

    def test_nobody(self):
        self.assert_line(SMALL, [], [], 255, 0, "5/5/5/5/5 h")
        self.assert_line(GREAT, [], [], 255, 1, "/".join(["13"] * 13) + " k")

    def test_the_king_taken(self):
        self.assert_line(SMALL, [2], [3], 255, 1, "5/5/5/5/2hm1 k")

    def test_everybody(self):
        hunters = [n for n in range(169) if n != 84]
        rows = ["h" * 13] * 6 + ["hhhhhhKhhhhhh"] + ["h" * 13] * 6
        self.assert_line(GREAT, hunters, [], 84, 0, "/".join(rows) + " h")
        self.assert_line(GREAT, [], hunters, 84, 0, ("/".join(rows) + " ").replace("h", "m") + "h")

    def test_the_king_on_the_seat_and_on_exits(self):
        self.assert_line(SMALL, [], [], 28, 0, "5/5/2K2/5/5 h")
        self.assert_line(SMALL, [], [], 0, 0, "5/5/5/5/K4 h")
        self.assert_line(SMALL, [], [], 56, 1, "4K/5/5/5/5 k")

    def test_corners(self):
        self.assert_line(GREAT, [0, 168], [12, 156], 255, 0, "m11h/" + "13/" * 11 + "h11m h")


class NotRight(WriteTest):

    def test_whose_turn(self):
        for side in (2, 3, 255, 256, MOST):
            self.assert_refused(SMALL, [], [], 28, side)
            self.assert_refused(SMALL, [2], [3], 255, side)

    def test_cells_outside_the_ground(self):
        for cell in (5, 12, 18, 57, 64, 65, 66, 67, 78, 156, 168):
            self.assert_refused(SMALL, [cell], [], 28, 0)
            self.assert_refused(SMALL, [], [cell], 28, 0)
            self.assert_refused(SMALL, [], [], cell, 0)
        self.assert_refused(WIDE, [65], [], 255, 0)
        self.assert_line(WIDE, [63], [], 255, 0, "11h1/13/13/13/13 h")
        self.assert_refused(HIGH, [], [161], 255, 0)
        self.assert_line(HIGH, [], [160], 255, 0, "4m" + "/5" * 12 + " h")

    def test_numbers_that_are_no_cells(self):
        for cell in (169, 170, 254, 256, 257, 1000, 65535, MOST - 1, MOST):
            for text in (SMALL, GREAT):
                self.assert_refused(text, [cell], [], 28, 0)
                self.assert_refused(text, [2, cell], [], 28, 0)
                self.assert_refused(text, [], [cell], 28, 0)
                self.assert_refused(text, [], [], cell, 0)
                self.assert_refused(text, [2], [3], cell, 1)

    def test_255_is_no_cell_of_a_hunter_or_a_man(self):
        self.assert_refused(GREAT, [255], [], 255, 0)
        self.assert_refused(GREAT, [], [255], 255, 0)

    def test_on_a_wall(self):
        for cell in (1, 55):
            self.assert_refused(SMALL, [cell], [], 28, 0)
            self.assert_refused(SMALL, [], [cell], 28, 0)
            self.assert_refused(SMALL, [], [], cell, 0)

    def test_on_the_seat_and_on_exits(self):
        for cell in (0, 28, 56):
            self.assert_refused(SMALL, [cell], [], 255, 0)
            self.assert_refused(SMALL, [], [cell], 255, 0)

    def test_two_on_one_cell(self):
        self.assert_refused(SMALL, [2], [2], 255, 0)
        self.assert_refused(SMALL, [2], [3], 2, 0)
        self.assert_refused(SMALL, [2], [3], 3, 0)
        self.assert_refused(SMALL, [2, 15, 54], [3, 15, 53], 28, 1)

    def test_lists_that_are_not_rising(self):
        for cells in ([3, 2], [2, 2], [2, 3, 3], [2, 4, 3], [4, 3, 2], [2, 3, 2], [54, 2, 3], [2, 3, 4, 4, 13]):
            self.assert_refused(SMALL, cells, [], 28, 0)
            self.assert_refused(SMALL, [], cells, 28, 0)
            # Put in order they are right, and so it's the order that is refused.
            self.assertEqual(ask_by(SMALL, write(sorted(set(cells)), [], 28, 0))[0], 0)

    def test_long_lists(self):
        self.assert_refused(GREAT, list(range(200)), [], 255, 0)
        self.assert_refused(GREAT, [], [2] * 200, 255, 0)
        self.assert_refused(GREAT, [MOST] * 200, [MOST] * 200, MOST, MOST)

    # All pieces on all cells, a piece at a time, against what the ground's rows say.
    def test_each_cell(self):
        ground = {"wall": (1, 55), "seat": (28,), "exit": (0, 56)}
        inside = [13 * y + x for y in range(5) for x in range(5)]
        for cell in range(200):
            standing = cell in inside and cell not in ground["wall"]
            plain = standing and cell not in ground["seat"] + ground["exit"]
            told = ask(rules(SMALL), write([cell], [], 255, 0), write([], [cell], 255, 0), write([], [], cell, 0))
            self.assertEqual([answer[0] for answer in told[1:]],
                             [0 if plain else -8, 0 if plain else -8, 0 if standing else -8], cell)


class OneAnothers(WriteTest):

    def assert_there_and_back(self, text, hunters, men, king, side):
        line = ask_by(text, write(hunters, men, king, side))
        self.assertEqual(line[0], 0)
        self.assertEqual(ask_by(text, read(line[2:])), said_position(hunters, men, king, side))

    def test_read_of_what_write_answers(self):
        for text in (SMALL, WIDE, HIGH, GREAT):
            told = ask(rules(text), *[write([cell], [], 255, 0) for cell in range(169)])[1:]
            plain = [cell for cell, answer in enumerate(told) if answer[0] == 0]
            for step, side in itertools.product((1, 2, 3, 5, 7), (0, 1)):
                some = plain[::step]
                self.assert_there_and_back(text, some[0::2], some[1::2], 255, side)
                self.assert_there_and_back(text, some[1::3], some[2::3], some[0], side)
                self.assert_there_and_back(text, some[1:], [], some[0], side)
                self.assert_there_and_back(text, [], some[:-1], some[-1], side)

    def test_read_of_what_begin_answers(self):
        for text in HALLS:
            line = ask_by(text, begin())
            self.assert_write_gives_it_back(text, line[2:])

    def assert_write_gives_it_back(self, text, line):
        told = ask_by(text, read(line))
        self.assertEqual(told[0], 0)
        many = told[1]
        hunters = told[2:2 + many]
        men = told[3 + many:-2]
        self.assertEqual(told[2 + many], len(men))
        again = ask_by(text, write(hunters, men, told[-2], told[-1]))
        self.assertEqual(again, [0, len(line)] + line)

    def test_write_of_what_read_answers(self):
        for cells in itertools.product("hmK.", repeat=5):
            if cells.count("K") < 2:
                line = "5/" + gaps_counted(cells) + "/5/hh1hh/2m2 k"
                self.assert_write_gives_it_back(SMALL, signs(line))

    def test_different_positions_have_different_lines(self):
        cells = [2, 3, 4]
        told = []
        for pieces in itertools.product(".hmK", repeat=3):
            if pieces.count("K") > 1:
                continue
            hunters = [cell for cell, piece in zip(cells, pieces) if piece == "h"]
            men = [cell for cell, piece in zip(cells, pieces) if piece == "m"]
            king = cells[pieces.index("K")] if "K" in pieces else 255
            for side in (0, 1):
                told.append(tuple(ask_by(SMALL, write(hunters, men, king, side))))
        self.assertEqual(len(set(told)), len(told))
        self.assertTrue(all(answer[0] == 0 for answer in told))


if __name__ == "__main__":
    unittest.main()
