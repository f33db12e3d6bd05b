"""The call turn: where a turn brings the pieces, which turns fit a ground, and what is refused."""

import unittest

from helper import (GREAT, GROUNDS, OBLONG, ROUND, ROUND_FAULTS, ROUND_GROUND, ask, ask_by, ask_many, begin, hall_on,
                    hall_text, line_fault, picture_line, picture_turned, read, rules, said_line, said_position, turn)

NO_TURN = [-2]
TALL = hall_on(("X.#.X", ".....", ".....", "..S..", ".....", ".....", "X.#.X"))


# The document's words, step by step.
def cell_by_words(x, y, wide, high, by):
    if by >= 4:
        x = wide - 1 - x
    for quarter in range(by % 4):
        x, y, wide, high = y, wide - 1 - x, high, wide
    return 13 * y + x


class TurnTest(unittest.TestCase):

    def assert_turns(self, text, line, by, turned):
        self.assertEqual(ask_by(text, turn(line, by)), said_line(turned), (line, by))

    # Every turn brings a ground without pieces to itself, so that only the ground decides.
    def assert_fitting(self, ground, fitting, text=None):
        empty = picture_line(["." * len(cells) for cells in ground], 0)
        told = ask_many(text or hall_on(ground), [turn(empty, by) for by in range(12)])
        self.assertEqual(told, [said_line(empty) if by in fitting else NO_TURN for by in range(12)], ground)


class AllEight(TurnTest):

    # Hunters on b1 and f2, a man on c2, the king on b3.
    LINES = ("7/7/7/7/1K5/2m2h1/1h5 h",
             "7/h1K4/1m5/7/7/1h5/7 h",
             "5h1/1h2m2/5K1/7/7/7/7 h",
             "7/5h1/7/7/5m1/4K1h/7 h",
             "7/7/7/7/5K1/1h2m2/5h1 h",
             "7/1h5/7/7/1m5/h1K4/7 h",
             "1h5/2m2h1/1K5/7/7/7/7 h",
             "7/4K1h/5m1/7/7/5h1/7 h")
    CELLS = (([1, 18], [15], 27),
             ([14, 65], [53], 67),
             ([66, 83], [69], 57),
             ([19, 70], [31], 17),
             ([5, 14], [17], 31),
             ([13, 66], [27], 15),
             ([70, 79], [67], 53),
             ([18, 71], [57], 69))

    def test_lines(self):
        for by in range(8):
            self.assert_turns(ROUND, self.LINES[0], by, self.LINES[by])

    def test_cells(self):
        for by in range(8):
            hunters, men, king = self.CELLS[by]
            self.assertEqual(hunters, sorted(cell_by_words(x, y, 7, 7, by) for x, y in ((1, 0), (5, 1))))
            self.assertEqual(men, [cell_by_words(2, 1, 7, 7, by)])
            self.assertEqual(king, cell_by_words(1, 2, 7, 7, by))
            self.assertEqual(ask_by(ROUND, read(self.LINES[by])), said_position(hunters, men, king, 0))

    def test_whose_turn_it_is_stays(self):
        for by in range(8):
            self.assert_turns(ROUND, self.LINES[0][:-1] + "k", by, self.LINES[by][:-1] + "k")

    def test_without_a_king(self):
        lines = ("7/7/7/7/7/2m2h1/1h5 h", "7/h6/1m5/7/7/1h5/7 h", "5h1/1h2m2/7/7/7/7/7 h", "7/5h1/7/7/5m1/6h/7 h",
                 "7/7/7/7/7/1h2m2/5h1 h", "7/1h5/7/7/1m5/h6/7 h", "1h5/2m2h1/7/7/7/7/7 h", "7/6h/5m1/7/7/5h1/7 h")
        for by in range(8):
            self.assert_turns(ROUND, lines[0], by, lines[by])

    def test_nobody(self):
        for by in range(8):
            self.assert_turns(ROUND, "7/7/7/7/7/7/7 h", by, "7/7/7/7/7/7/7 h")
            self.assert_turns(ROUND, "7/7/7/7/7/7/7 k", by, "7/7/7/7/7/7/7 k")

    def test_the_king_on_the_seat_stays_there(self):
        for by in range(8):
            self.assert_turns(ROUND, "7/7/7/3K3/7/7/7 k", by, "7/7/7/3K3/7/7/7 k")

    def test_the_king_goes_from_exit_to_exit(self):
        corners = ("7/7/7/7/7/7/K6 h", "K6/7/7/7/7/7/7 h", "6K/7/7/7/7/7/7 h", "7/7/7/7/7/7/6K h")
        for by, corner in enumerate((0, 1, 2, 3, 3, 0, 1, 2)):
            self.assert_turns(ROUND, corners[0], by, corners[corner])

    def test_many_pieces(self):
        self.assert_turns(ROUND, "1h5/7/3m3/1mmKm2/7/2m4/1h3h1 k", 1, "7/h2m2h/1m1m3/3Km2/3m3/h6/7 k")

    def test_the_start(self):
        start = "7/3h3/2mm3/1h1K3/7/7/1h5 h"
        self.assertEqual(ask_by(ROUND, begin()), said_line(start))
        self.assert_turns(ROUND, start, 0, start)
        self.assert_turns(ROUND, start, 1, "7/h2h3/4m2/3Kmh1/7/7/7 h")


class GreatGrounds(TurnTest):

    # A hunter on a2, a man on c1, the king on m13, which is the last cell by number.
    def test_each_turn(self):
        rows = (["12K"] + ["13"] * 10 + ["h12", "2m10"],
                ["1h11", "13", "m12"] + ["13"] * 9 + ["12K"],
                ["10m2", "12h"] + ["13"] * 10 + ["K12"],
                ["K12"] + ["13"] * 9 + ["12m", "13", "11h1"],
                ["K12"] + ["13"] * 10 + ["12h", "10m2"],
                ["12K"] + ["13"] * 9 + ["m12", "13", "1h11"],
                ["2m10", "h12"] + ["13"] * 10 + ["12K"],
                ["11h1", "13", "12m"] + ["13"] * 9 + ["K12"])
        for by in range(8):
            self.assert_turns(GREAT, "/".join(rows[0]) + " h", by, "/".join(rows[by]) + " h")

    def test_full_grounds(self):
        rows = ["h" * 13] * 6 + ["mmmmmmKmmmmmm"] + ["m" * 13] * 6
        line = "/".join(rows) + " k"
        self.assert_turns(GREAT, line, 1, "/".join(["m" * 7 + "h" * 6] * 6 + ["mmmmmmKhhhhhh"]
                                                   + ["m" * 7 + "h" * 6] * 6) + " k")
        self.assert_turns(GREAT, line, 2, "/".join(rows[::-1]) + " k")
        self.assert_turns(GREAT, line, 3, "/".join(["h" * 6 + "m" * 7] * 6 + ["hhhhhhKmmmmmm"]
                                                   + ["h" * 6 + "m" * 7] * 6) + " k")
        self.assert_turns(GREAT, line, 4, line)


class NotSquare(TurnTest):

    def test_wider_than_high(self):
        line = "6K/7/7/2m4/1h5 h"
        self.assert_turns(OBLONG, line, 0, line)
        self.assert_turns(OBLONG, line, 2, "5h1/4m2/7/7/K6 h")
        self.assert_turns(OBLONG, line, 4, "K6/7/7/4m2/5h1 h")
        self.assert_turns(OBLONG, line, 6, "1h5/2m4/7/7/6K h")
        for by in (1, 3, 5, 7):
            self.assertEqual(ask_by(OBLONG, turn(line, by)), NO_TURN)

    def test_higher_than_wide(self):
        line = "4K/5/5/5/m4/5/1h3 k"
        self.assert_turns(TALL, line, 0, line)
        self.assert_turns(TALL, line, 2, "3h1/5/4m/5/5/5/K4 k")
        self.assert_turns(TALL, line, 4, "K4/5/5/5/4m/5/3h1 k")
        self.assert_turns(TALL, line, 6, "1h3/5/m4/5/5/5/4K k")
        for by in (1, 3, 5, 7):
            self.assertEqual(ask_by(TALL, turn(line, by)), NO_TURN)

    def test_all_plain(self):
        self.assert_fitting(["......"] * 5, [0, 2, 4, 6])
        self.assert_fitting(["....."] * 6, [0, 2, 4, 6])
        self.assert_fitting(["." * 13] * 12, [0, 2, 4, 6])
        self.assert_fitting(["." * 12] * 13, [0, 2, 4, 6])


class Fitting(TurnTest):

    def test_many_grounds(self):
        for ground, fitting in GROUNDS:
            self.assert_fitting(ground, fitting)
            self.assertEqual(fitting, [by for by in range(8) if picture_turned(ground, by) == list(ground)])

    def test_one_cell_decides(self):
        by_place = {(0, 0): [0, 5], (4, 0): [0, 7], (0, 4): [0, 7], (4, 4): [0, 5], (1, 1): [0, 5], (3, 1): [0, 7],
                    (2, 0): [0, 4], (2, 4): [0, 4], (0, 2): [0, 6], (4, 2): [0, 6], (1, 2): [0, 6], (2, 3): [0, 4],
                    (2, 2): list(range(8)), (1, 0): [0], (4, 1): [0], (0, 3): [0]}
        for (x, y), fitting in by_place.items():
            for sign in "SX#":
                cells = [["."] * 5 for row in range(5)]
                cells[4 - y][x] = sign
                self.assert_fitting(["".join(row) for row in cells], fitting)

    # The cell that it comes to is of another kind, though it isn't plain either.
    def test_kinds_are_not_mixed_up(self):
        for lower, upper in ("#X", "X#", "SX", "XS", "S#", "#S"):
            self.assert_fitting(["...." + upper] + ["....."] * 3 + [lower + "...."], [0, 5])
            self.assert_fitting([".." + upper + ".."] + ["....."] * 3 + [".." + lower + ".."], [0, 4])

    def test_even_sizes_have_no_middle_for_the_seat(self):
        self.assert_fitting(["......", "......", "......", "..S...", "......", "......"], [0, 5])
        self.assert_fitting(["......", "......", "..S...", "......", "......", "......"], [0, 7])

    def test_the_start_is_not_looked_at(self):
        uneven = hall_text(ROUND_GROUND, ["." * 7, ".h.....", "....m..", "..K....", "." * 7, "......h", ".h....."])
        self.assert_fitting(ROUND_GROUND, list(range(8)), uneven)
        ground = ["#...."] + ["....."] * 4
        even = hall_text(ground, [".....", "..h..", ".hKh.", "..h..", "....."])
        self.assert_fitting(ground, [0, 7], even)

    def test_the_rest_of_the_rules_is_not_looked_at(self):
        for words in ({"first": "king"}, {"king": "steps bare four"}, {"seat": "barred all"}, {"exits": "men"},
                      {"goal": "exits"}, {"thrice": "king"}, {"limit": "1"}, {"name": "X1"}):
            text = hall_text(ROUND_GROUND, ["." * 7, "...h...", "." * 7, "...K...", "." * 7, "." * 7, "." * 7], **words)
            self.assert_fitting(ROUND_GROUND, list(range(8)), text)


class Refused(TurnTest):

    def test_above_seven(self):
        for by in (8, 9, 10, 11, 12, 15, 16, 255, 256, 65536, 2147483648, 4294967288, 4294967294, 4294967295):
            self.assertEqual(ask_by(ROUND, turn(AllEight.LINES[0], by)), NO_TURN, by)
            self.assertEqual(ask_by(OBLONG, turn("7/7/7/7/7 k", by)), NO_TURN, by)

    def test_a_turn_that_does_not_fit_though_the_pieces_would(self):
        text = hall_on([".....", ".....", ".....", ".....", ".#..."])
        for line in ("5/5/5/5/5 h", "h3h/5/2K2/5/h3h k", "5/5/2K2/5/5 h"):
            for by in range(1, 8):
                self.assertEqual(ask_by(text, turn(line, by)), NO_TURN, (line, by))
            self.assert_turns(text, line, 0, line)

    def test_a_line_at_fault(self):
        for line, kind, place in ROUND_FAULTS:
            for by in range(8):
                self.assertEqual(ask_by(ROUND, turn(line, by)), line_fault(kind, place), (line, by))

    def test_the_fault_comes_before_the_turn(self):
        for line, kind, place in ROUND_FAULTS:
            for by in (8, 9, 255, 4294967295):
                self.assertEqual(ask_by(ROUND, turn(line, by)), line_fault(kind, place), (line, by))
        for by in (1, 3, 5, 7, 8):
            self.assertEqual(ask_by(OBLONG, turn("7/7/7/7/7", by)), line_fault(1, 9), by)
            self.assertEqual(ask_by(OBLONG, turn("7/7/3h3/7/7 h", by)), line_fault(2, 5), by)

    # A quarter turn of it would be a line of a ground that is as wide as this one is high.
    def test_lines_of_another_size(self):
        self.assertEqual(ask_by(OBLONG, turn("5/5/5/5/5/5/5 h", 0)), line_fault(1, 1))
        self.assertEqual(ask_by(OBLONG, turn("5/5/5/5/5/5/5 h", 1)), line_fault(1, 1))

    def test_without_rules(self):
        for by in (0, 1, 7, 8, 4294967295):
            for line in (AllEight.LINES[0], "", "x"):
                self.assertEqual(ask(turn(line, by)), [[-3]])
                self.assertEqual(ask(rules(ROUND[:-1]), turn(line, by))[1], [-3])


if __name__ == "__main__":
    unittest.main()
