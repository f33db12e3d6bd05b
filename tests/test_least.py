"""The call least: the order of positions, the turn that makes the least, and what is refused."""

import random
import unittest

from helper import (GREAT, GROUNDS, OBLONG, ROUND, ROUND_FAULTS, SMALL, WIDE, ask, ask_by, ask_many, hall_on, least,
                    line_fault, picture_line, picture_rank, picture_turned, random_picture, rules, said_least)

# A hunter beside the middle on each side, on d2, b4, f4 and d6: every turn brings them to one another's cells.
FOUR_HUNTERS = ["7", "3h3", "7", "1h3h1", "7", "3h3", "7"]


class LeastTest(unittest.TestCase):

    def assert_least(self, text, line, by, least_line):
        self.assertEqual(ask_by(text, least(line)), said_least(by, least_line), line)

    def assert_own_least(self, text, line):
        self.assert_least(text, line, 0, line)


def line_of_rows(rows, changed, side="h"):
    rows = list(rows)
    for y, row in changed.items():
        rows[len(rows) - 1 - y] = row
    return "/".join(rows) + " " + side


class OfRound(LeastTest):

    def test_its_own_least(self):
        self.assert_own_least(ROUND, "7/7/7/7/7/7/1h5 h")
        self.assert_own_least(ROUND, "7/7/7/7/7/7/1h5 k")
        self.assert_own_least(ROUND, "7/7/7/7/5K1/1h2m2/5h1 h")

    def test_another_is_the_least(self):
        self.assert_least(ROUND, "1h5/7/7/7/7/7/7 h", 6, "7/7/7/7/7/7/1h5 h")
        self.assert_least(ROUND, "1h5/7/7/7/7/7/7 k", 6, "7/7/7/7/7/7/1h5 k")

    # The eight that are told by the tests of turn.
    def test_one_least_of_all_eight(self):
        lines = ("7/7/7/7/1K5/2m2h1/1h5 k", "7/h1K4/1m5/7/7/1h5/7 k", "5h1/1h2m2/5K1/7/7/7/7 k",
                 "7/5h1/7/7/5m1/4K1h/7 k", "7/7/7/7/5K1/1h2m2/5h1 k", "7/1h5/7/7/1m5/h1K4/7 k",
                 "1h5/2m2h1/1K5/7/7/7/7 k", "7/4K1h/5m1/7/7/5h1/7 k")
        for line, by in zip(lines, (4, 5, 6, 7, 0, 3, 2, 1)):
            self.assert_least(ROUND, line, by, lines[4])

    def test_each_turn_alone_makes_it(self):
        lines = ("7/7/7/7/7/7/1h5 h", "7/7/7/7/7/6h/7 h", "5h1/7/7/7/7/7/7 h", "7/h6/7/7/7/7/7 h",
                 "7/7/7/7/7/7/5h1 h", "7/7/7/7/7/h6/7 h", "1h5/7/7/7/7/7/7 h", "7/6h/7/7/7/7/7 h")
        for by in range(8):
            self.assert_least(ROUND, lines[by], by, lines[0])

    def test_of_several_turns_the_least_by_number(self):
        middle = "7/7/7/7/7/3h3/7 h"
        for line, by in ((middle, 0), ("7/7/7/5h1/7/7/7 h", 1), ("7/3h3/7/7/7/7/7 h", 2), ("7/7/7/1h5/7/7/7 h", 3)):
            self.assert_least(ROUND, line, by, middle)
        slanting = "7/7/7/7/7/1m5/7 k"
        for line, by in ((slanting, 0), ("7/7/7/7/7/5m1/7 k", 1), ("7/5m1/7/7/7/7/7 k", 2), ("7/1m5/7/7/7/7/7 k", 3)):
            self.assert_least(ROUND, line, by, slanting)

    def test_all_turns_make_it(self):
        for line in ("7/7/7/7/7/7/7 h", "7/7/7/7/7/7/7 k", "7/7/7/3K3/7/7/7 h", line_of_rows(FOUR_HUNTERS, {}),
                     line_of_rows(FOUR_HUNTERS, {3: "1h1K1h1"}, "k")):
            self.assert_own_least(ROUND, line)

    def test_a_king_who_is_taken(self):
        self.assert_least(ROUND, "1h5/1m5/7/7/7/7/7 k", 6, "7/7/7/7/7/1m5/1h5 k")
        self.assert_least(ROUND, line_of_rows(FOUR_HUNTERS, {6: "5m1"}), 2, line_of_rows(FOUR_HUNTERS, {0: "1m5"}))


class Order(LeastTest):

    # Turn 2 would bring the man and the king to lesser cells.
    def test_hunters_come_first(self):
        self.assert_own_least(ROUND, "5m1/5K1/7/7/7/7/1h5 h")
        self.assert_least(ROUND, "1h5/7/7/7/7/5K1/5m1 h", 6, "5m1/5K1/7/7/7/7/1h5 h")

    # Hunters on b1 and b7 are more than on a2 and g2: b7 has the highest number.
    def test_the_highest_cell_decides(self):
        self.assert_least(ROUND, "1h5/7/7/7/7/7/1h5 h", 3, "7/7/7/7/7/h5h/7 h")
        self.assert_least(ROUND, line_of_rows(FOUR_HUNTERS, {6: "1m5", 0: "1m5"}), 3,
                          line_of_rows(FOUR_HUNTERS, {1: "m2h2m"}))

    def test_then_the_next_cell(self):
        self.assert_least(ROUND, "7/7/7/7/7/3h3/5h1 h", 4, "7/7/7/7/7/3h3/1h5 h")
        self.assert_own_least(ROUND, "7/7/7/7/7/3h3/1h5 h")
        self.assert_least(ROUND, "7/h6/7/7/h6/h6/7 h", 5, "7/7/7/7/7/7/1hh2h1 h")

    # All turns bring the hunters to one another's cells; turn 0 has the king on the lesser cell.
    def test_men_come_next(self):
        self.assert_least(ROUND, line_of_rows(FOUR_HUNTERS, {6: "1m5", 0: "1K5"}), 6,
                          line_of_rows(FOUR_HUNTERS, {6: "1K5", 0: "1m5"}))

    def test_then_the_kings_cell(self):
        rows = ["7", "1m1h1m1", "7", "1h3h1", "7", "1m1h1m1", "7"]
        for by, changed in enumerate(({0: "1K5"}, {1: "1m1h1mK"}, {6: "5K1"}, {5: "Km1h1m1"},
                                      {0: "5K1"}, {1: "Km1h1m1"}, {6: "1K5"}, {5: "1m1h1mK"})):
            for side in "hk":
                self.assert_least(ROUND, line_of_rows(rows, changed, side), by, line_of_rows(rows, {0: "1K5"}, side))

    def test_only_the_king(self):
        self.assert_least(ROUND, "6K/7/7/7/7/7/7 h", 2, "7/7/7/7/7/7/K6 h")
        self.assert_least(ROUND, "7/7/7/7/7/7/6K h", 1, "7/7/7/7/7/7/K6 h")
        self.assert_least(ROUND, "K6/7/7/7/7/7/7 k", 3, "7/7/7/7/7/7/K6 k")


class OtherGrounds(LeastTest):

    def test_only_turn_0_fits(self):
        text = hall_on([".....", ".....", ".....", ".....", ".#..."])
        for line in ("4h/5/5/5/5 h", "h4/5/5/5/5 h", "5/5/5/5/4h k", "3mK/4h/5/5/5 k", "5/5/5/5/5 h", "4K/5/5/5/5 k"):
            self.assert_own_least(text, line)
        self.assert_own_least(WIDE, "h12/12m/13/13/11hK k")

    # A hunter on a2 would be less, but it's by turns 4 and 6 that he would come there.
    def test_only_turn_2_fits_besides(self):
        self.assert_least(SMALL, "5/h4/5/5/5 k", 2, "5/5/5/4h/5 k")
        self.assert_own_least(SMALL, "5/5/5/4h/5 h")

    def test_not_square(self):
        self.assert_least(OBLONG, "7/7/7/6h/7 h", 4, "7/7/7/h6/7 h")
        self.assert_least(OBLONG, "7/6h/7/7/7 h", 2, "7/7/7/h6/7 h")
        self.assert_least(OBLONG, "7/h6/7/7/7 h", 6, "7/7/7/h6/7 h")
        self.assert_least(OBLONG, "3h3/7/7/7/7 k", 2, "7/7/7/7/3h3 k")

    def test_the_widest_ground(self):
        empty = ["13"] * 12
        self.assert_least(GREAT, "/".join(["12h"] + empty) + " h", 2, "/".join(empty + ["h12"]) + " h")
        full = "/".join(["h" * 13] * 6 + ["hhhhhhKhhhhhh"] + ["h" * 13] * 6) + " k"
        self.assert_own_least(GREAT, full)

    def test_many_positions(self):
        source = random.Random(5)
        for ground, fitting in GROUNDS:
            pictures = [(random_picture(source, ground, of_hundred), source.randrange(2))
                        for of_hundred in (2, 5, 10, 20, 50, 90, 100) for again in range(6)]
            told = ask_many(hall_on(ground), [least(picture_line(picture, side)) for picture, side in pictures])
            for (picture, side), answer in zip(pictures, told):
                by = min(fitting, key=lambda by: (picture_rank(picture_turned(picture, by), side), by))
                self.assertEqual(answer, said_least(by, picture_line(picture_turned(picture, by), side)))


class Refused(LeastTest):

    def test_a_line_at_fault(self):
        for line, kind, place in ROUND_FAULTS:
            self.assertEqual(ask_by(ROUND, least(line)), line_fault(kind, place), line)

    # Its least would be right, but the line isn't.
    def test_a_piece_where_it_may_not_be(self):
        self.assertEqual(ask_by(SMALL, least("5/5/5/5/h4 h")), line_fault(2, 8))
        self.assertEqual(ask_by(SMALL, least("3m1/5/5/5/5 h")), line_fault(2, 1))

    def test_without_rules(self):
        for line in ("7/7/7/7/7/7/7 h", "", "x"):
            self.assertEqual(ask(least(line)), [[-3]])
            self.assertEqual(ask(rules(ROUND[:-1]), least(line))[1], [-3])


if __name__ == "__main__":
    unittest.main()
