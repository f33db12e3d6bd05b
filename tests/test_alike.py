"""The call alike: positions that a fitting turn brings to one another, and what is refused."""

import random
import unittest

from helper import (GREAT, GROUNDS, OBLONG, ROUND, ROUND_FAULTS, SMALL, WIDE, alike, ask, ask_by, ask_many, hall_on,
                    line_fault, picture_line, picture_turned, random_picture, rules)

# Hunters on b1 and f2, a man on c2, the king on b3, and this turned by 1 to 7.
LINES = ("7/7/7/7/1K5/2m2h1/1h5 h", "7/h1K4/1m5/7/7/1h5/7 h", "5h1/1h2m2/5K1/7/7/7/7 h", "7/5h1/7/7/5m1/4K1h/7 h",
         "7/7/7/7/5K1/1h2m2/5h1 h", "7/1h5/7/7/1m5/h1K4/7 h", "1h5/2m2h1/1K5/7/7/7/7 h", "7/4K1h/5m1/7/7/5h1/7 h")
EMPTY = "7/7/7/7/7/7/7 h"


class AlikeTest(unittest.TestCase):

    def assert_both_ways(self, text, line, other, answer):
        self.assertEqual(ask_by(text, alike(line, other)), [answer], (line, other))
        self.assertEqual(ask_by(text, alike(other, line)), [answer], (other, line))

    def assert_alike(self, text, line, other):
        self.assert_both_ways(text, line, other, 1)

    def assert_unlike(self, text, line, other):
        self.assert_both_ways(text, line, other, 0)


class Alike(AlikeTest):

    def test_itself(self):
        for line in LINES + (EMPTY, "7/7/7/7/7/7/7 k", "K6/7/7/7/7/7/7 k", "7/7/7/7/7/7/1h5 h"):
            self.assert_alike(ROUND, line, line)
        self.assert_alike(WIDE, "13/6h6/5hK6/13/12m h", "13/6h6/5hK6/13/12m h")

    def test_turned_by_each_turn(self):
        for line in LINES:
            for other in LINES:
                self.assert_alike(ROUND, line, other)

    def test_without_a_king(self):
        self.assert_alike(ROUND, "7/7/7/7/7/2m2h1/1h5 k", "7/h6/1m5/7/7/1h5/7 k")
        self.assert_alike(ROUND, "7/7/7/7/7/7/5m1 k", "7/m6/7/7/7/7/7 k")

    def test_only_the_king(self):
        self.assert_alike(ROUND, "7/7/7/7/7/7/K6 h", "6K/7/7/7/7/7/7 h")

    def test_not_square(self):
        for other in ("6K/7/7/2m4/1h5 h", "5h1/4m2/7/7/K6 h", "K6/7/7/4m2/5h1 h", "1h5/2m4/7/7/6K h"):
            self.assert_alike(OBLONG, "6K/7/7/2m4/1h5 h", other)

    def test_the_widest_ground(self):
        full = "/".join(["h" * 13] * 6 + ["hhhhhhKhhhhhh"] + ["m" * 13] * 6) + " k"
        turned = "/".join(["m" * 6 + "h" * 7] * 6 + ["mmmmmmKhhhhhh"] + ["m" * 6 + "h" * 7] * 6) + " k"
        self.assert_alike(GREAT, full, turned)


class Unlike(AlikeTest):

    def test_whose_turn_it_is(self):
        self.assert_unlike(ROUND, EMPTY, "7/7/7/7/7/7/7 k")
        for line in LINES:
            for other in LINES:
                self.assert_unlike(ROUND, line, other[:-1] + "k")

    def test_other_pieces(self):
        line = "7/7/7/7/1K5/2m2h1/1h5 h"
        for other in ("7/7/7/7/7/2m2h1/1h5 h", "7/7/7/7/1K5/5h1/1h5 h", "7/7/7/7/1K5/2m4/1h5 h",
                      "7/7/7/7/1K5/2m2m1/1h5 h", "7/7/7/7/1K5/2h2h1/1h5 h", "7/7/7/7/1K5/2m2h1/1h2h2 h",
                      "7/7/7/7/1K5/2m2h1/1hm4 h", "7/7/7/7/2K4/2m2h1/1h5 h", "7/7/7/7/1K5/2m2h1/2h4 h",
                      "7/7/7/7/1K5/1m3h1/1h5 h", "7/7/7/7/1K5/2h2m1/1h5 h", "7/7/7/7/1m5/2K2h1/1h5 h", EMPTY):
            self.assert_unlike(ROUND, line, other)

    # Each kind of piece is turned alike by itself, but not all by one turn.
    def test_by_no_turn_together(self):
        self.assert_unlike(ROUND, "7/7/7/7/7/1m5/1h5 h", "7/7/7/7/7/5m1/1h5 h")
        self.assert_unlike(ROUND, "7/7/7/7/7/1K5/1h5 h", "7/7/7/7/7/5K1/1h5 h")
        self.assert_unlike(ROUND, "7/7/7/7/7/1K5/1m5 k", "7/7/7/7/7/5K1/1m5 k")

    def test_men_and_hunters_are_not_mixed_up(self):
        self.assert_unlike(ROUND, "7/7/7/7/7/7/1h5 h", "7/7/7/7/7/7/1m5 h")
        self.assert_unlike(ROUND, "7/7/7/7/7/7/1m5 h", "7/7/7/7/7/7/1K5 h")

    def test_by_a_turn_that_does_not_fit(self):
        lone = hall_on([".....", ".....", ".....", ".....", ".#..."])
        self.assert_unlike(lone, "h4/5/5/5/5 h", "4h/5/5/5/5 h")
        self.assert_unlike(lone, "5/h4/5/5/5 k", "5/4h/5/5/5 k")
        self.assert_alike(SMALL, "5/4h/5/5/5 h", "5/5/5/h4/5 h")
        self.assert_unlike(SMALL, "5/4h/5/5/5 h", "5/h4/5/5/5 h")
        self.assert_unlike(SMALL, "5/4h/5/5/5 h", "5/5/5/4h/5 h")
        self.assert_unlike(WIDE, "13/h12/13/13/13 h", "13/12h/13/13/13 h")

    # A quarter turn to the right would bring the hunter from c3 to c4, and from b3 to c5.
    def test_by_a_quarter_turn_of_a_ground_that_is_not_square(self):
        plain = hall_on(["......"] * 5)
        self.assert_unlike(plain, "6/6/2h3/6/6 h", "6/2h3/6/6/6 h")
        self.assert_unlike(plain, "6/6/1h4/6/6 h", "2h3/6/6/6/6 h")


class Many(AlikeTest):

    def test_pictures(self):
        source = random.Random(6)
        for ground, fitting in GROUNDS:
            calls = []
            answers = []
            for of_hundred in (3, 6, 10, 25, 60, 100):
                picture = random_picture(source, ground, of_hundred)
                others = [picture_turned(picture, by) for by in fitting]
                others += [random_picture(source, ground, of_hundred) for again in range(4)]
                for other in others:
                    side = source.randrange(2)
                    other_side = source.choice((side, side, 1 - side))
                    same = [by for by in fitting if picture_turned(picture, by) == other]
                    calls.append(alike(picture_line(picture, side), picture_line(other, other_side)))
                    answers.append([1 if same and side == other_side else 0])
            self.assertEqual(ask_many(hall_on(ground), calls), answers)


class Refused(AlikeTest):

    def test_the_first_at_fault(self):
        for line, kind, place in ROUND_FAULTS:
            self.assertEqual(ask_by(ROUND, alike(line, EMPTY)), line_fault(kind, place), line)

    def test_the_second_at_fault(self):
        for line, kind, place in ROUND_FAULTS:
            self.assertEqual(ask_by(ROUND, alike(EMPTY, line)), line_fault(kind, place), line)
            self.assertEqual(ask_by(ROUND, alike(LINES[3], line)), line_fault(kind, place), line)

    def test_both_at_fault(self):
        for line, kind, place in ROUND_FAULTS:
            for other, other_kind, other_place in ROUND_FAULTS:
                self.assertEqual(ask_by(ROUND, alike(line, other)), line_fault(kind, place), (line, other))

    def test_without_rules(self):
        for line in (EMPTY, "", "x"):
            for other in (EMPTY, "", "x"):
                self.assertEqual(ask(alike(line, other)), [[-3]])
                self.assertEqual(ask(rules(ROUND[:-1]), alike(line, other))[1], [-3])


if __name__ == "__main__":
    unittest.main()
