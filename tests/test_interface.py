"""The function answers itself: how calls come in, how answers go out, and what is kept (nothing)."""

import contextlib
import io
import unittest

import tafllines.hall
from helper import (GREAT, OBLONG, SMALL, WIDE, alike, ask, begin, hall_on, least, line_fault, read, rules, said_least,
                    said_line, said_position, signs, turn, write)

SMALL_START_LINE = "2h2/2m2/hmKmh/2m2/2h2 h"

# By SMALL's rules turn 2 fits besides turn 0, and brings the one line to the other.
HIGHER = "5/h4/5/5/5 k"
LOWER = "5/5/5/4h/5 k"

# As wide and as high as SMALL, but with nothing on its ground, so that all turns fit.
PLAIN = hall_on(["....."] * 5)


class WithoutRules(unittest.TestCase):

    def test_each_call_but_rules(self):
        for call in (begin(), read(SMALL_START_LINE), read(""), read([255] * 1000), write([], [], 255, 0),
                     write([3, 2], [4294967295], 4294967295, 4294967295), turn(SMALL_START_LINE, 0), turn("", 9),
                     least(SMALL_START_LINE), least(""), alike(SMALL_START_LINE, SMALL_START_LINE), alike("", "")):
            self.assertEqual(ask(call), [[-3]], call)

    def test_refused_rules_are_no_rules(self):
        for text in ("", SMALL[:-1], SMALL + "x", SMALL.replace("K", ".")):
            for call in (begin(), turn(SMALL_START_LINE, 0), least(SMALL_START_LINE), alike(HIGHER, LOWER)):
                self.assertEqual(ask(rules(text), call)[1], [-3])

    def test_the_next_call_is_found_behind_each(self):
        calls = [begin(), read("5/5"), write([1, 2, 3], [0], 0, 0), turn("0123", 6), least("54"), alike("1", "22")]
        self.assertEqual(ask(*calls), [[-3]] * 6)
        self.assertEqual(ask(*(calls + [rules(SMALL), begin()]))[6:], [[0], [0, 23] + signs(SMALL_START_LINE)])


class Answers(unittest.TestCase):

    def test_counts_stand_ahead(self):
        calls = rules(SMALL) + begin() + read("5/5/5/5/2hK1 k") + read("6") + write([2], [], 3, 1) + write([], [], 1, 0)
        line = signs("5/5/5/5/2hK1 k")
        told = [1, 0] + [25, 0, 23] + signs(SMALL_START_LINE) + [6, 0, 1, 2, 0, 3, 1] + [3, -5, 1, 0]
        told += [16, 0, 14] + line + [1, -8]
        self.assertEqual(tafllines.hall.answers(calls), told)

    def test_counts_stand_ahead_of_turned_ones(self):
        calls = rules(SMALL) + turn(HIGHER, 2) + turn(HIGHER, 1) + turn("5", 1) + least(HIGHER) + least("h")
        calls += alike(HIGHER, LOWER) + alike(HIGHER, "5/5/5/5/5 k") + alike(LOWER, "5/x")
        told = [1, 0] + [14, 0, 12] + signs(LOWER) + [1, -2] + [3, -5, 1, 1] + [15, 0, 2, 12] + signs(LOWER)
        told += [3, -5, 1, 1] + [1, 1] + [1, 0] + [3, -5, 1, 2]
        self.assertEqual(tafllines.hall.answers(calls), told)

    def test_all_seven_in_one_list(self):
        told = ask(alike(HIGHER, LOWER), rules(SMALL), begin(), read(HIGHER), write([39], [], 255, 1), turn(HIGHER, 2),
                   least(HIGHER), alike(HIGHER, LOWER), rules(OBLONG), begin())
        self.assertEqual(told, [[-3], [0], said_line(SMALL_START_LINE), said_position([39], [], 255, 1),
                                said_line(HIGHER), said_line(LOWER), said_least(2, LOWER), [1],
                                [0], said_line("7/2h1m2/3K3/7/2h4 h")])

    def test_rules_changed_between(self):
        calls = [turn(HIGHER, 2), turn(HIGHER, 6), least(HIGHER), alike(HIGHER, LOWER), alike(HIGHER, "5/5/5/h4/5 k")]
        by_small = [said_line(LOWER), [-2], said_least(2, LOWER), [1], [0]]
        by_plain = [said_line(LOWER), said_line("5/5/5/h4/5 k"), said_least(3, "5/5/5/5/1h3 k"), [1], [1]]
        by_wide = [line_fault(1, 1)] * 5
        told = ask(*([rules(SMALL)] + calls + [rules(PLAIN)] + calls + [rules(WIDE)] + calls + [rules(SMALL)] + calls))
        self.assertEqual(told, [[0]] + by_small + [[0]] + by_plain + [[0]] + by_wide + [[0]] + by_small)

    def test_faults_of_rules(self):
        self.assertEqual(tafllines.hall.answers([0, 0]), [3, -6, 1, 0])
        self.assertEqual(tafllines.hall.answers([0, 1, 116]), [3, -6, 1, 1])

    def test_whole_numbers_alone(self):
        calls = rules(SMALL) + begin() + read(SMALL_START_LINE) + read("") + write([2], [3], 28, 1) + rules("tafl")
        calls += turn(HIGHER, 2) + turn(HIGHER, 1) + least(HIGHER) + alike(HIGHER, LOWER) + alike(HIGHER, "5/5/5/5/5 h")
        told = tafllines.hall.answers(calls)
        self.assertIs(type(told), list)
        self.assertEqual({type(number) for number in told}, {int})

    def test_refused_calls_change_nothing(self):
        good = [begin(), read(SMALL_START_LINE), write([2], [3], 28, 0), turn(HIGHER, 2), least(HIGHER),
                alike(HIGHER, LOWER), alike(HIGHER, "5/5/5/h4/5 k")]
        refused = [rules(""), rules(WIDE[:-1]), rules(WIDE + "x"), rules(WIDE.replace("K", ".")), read(""),
                   read("3h1/5/5/5/5 h"), write([1], [], 255, 0), write([3, 2], [], 255, 0),
                   rules(PLAIN[:-1]), rules(PLAIN.replace("goal edge", "goal exits")),
                   turn(HIGHER, 1), turn(HIGHER, 8), turn(HIGHER, 4294967295), turn("5", 2), turn("4h/5/5/5/5 h", 2),
                   least("5"), least("4h/5/5/5/5 h"), alike("5", LOWER), alike(HIGHER, "3m1/5/5/5/5 h"), alike("", "")]
        plain = ask(rules(SMALL), *good)[1:]
        for call in refused:
            told = ask(rules(SMALL), *(good + [call] + good))[1:]
            self.assertLess(told[7][0], 0)
            self.assertEqual(told[:7] + told[8:], plain + plain)

    def test_right_calls_but_rules_change_nothing(self):
        good = [begin(), read("5/5/5/5/5 k"), write([2], [3], 255, 1), turn(HIGHER, 2), least(HIGHER),
                alike(HIGHER, LOWER)]
        plain = ask(rules(SMALL), *good)[1:]
        self.assertEqual(ask(rules(SMALL), *(good * 3))[1:], plain * 3)
        self.assertEqual(ask(rules(SMALL), *good[::-1])[1:], plain[::-1])

    def test_as_many_calls_as_may_come(self):
        told = ask(*([rules(SMALL)] + [begin()] * 299))
        self.assertEqual(len(told), 300)
        self.assertEqual(told[1:], [told[1]] * 299)
        calls = [rules(SMALL)] + [read("5/5/5/5/5 h" + "h" * 989)] * 29
        self.assertEqual(ask(*calls)[1:], [line_fault(1, 11)] * 29)
        empty = "/".join(["13"] * 13) + " h"
        for call in (turn(empty, 7), least(empty), alike(empty, empty)):
            told = ask(*([rules(GREAT)] + [call] * 299))
            self.assertEqual(told[1:], [told[1]] * 299)
            self.assertGreaterEqual(told[1][0], 0)

    def test_long_rows(self):
        cells = [4294967295] * 200
        self.assertEqual(ask(rules(GREAT), write(cells, cells, 4294967295, 4294967295))[1], [-8])
        self.assertEqual(ask(rules([116] * 1000))[0], [-6, 1, 1])
        row = [104] * 1000
        for call in (turn(row, 4294967295), least(row), alike(row, row)):
            self.assertEqual(ask(rules(GREAT), call)[1], line_fault(1, 13))

    def test_prints_nothing(self):
        printed = io.StringIO()
        with contextlib.redirect_stdout(printed), contextlib.redirect_stderr(printed):
            ask(rules(SMALL), begin(), read(""), write([], [], 0, 0), turn(HIGHER, 1), least(HIGHER), alike("", ""))
        self.assertEqual(printed.getvalue(), "")


class NothingIsKept(unittest.TestCase):

    def setUp(self):
        self.calls = (rules(SMALL) + begin() + read(SMALL_START_LINE) + read("5/") + write([2, 3], [4], 28, 1)
                      + write([3, 2], [1], 28, 1) + turn(HIGHER, 2) + turn(HIGHER, 1) + turn("5", 0) + least(HIGHER)
                      + least("5/") + alike(HIGHER, LOWER) + alike(LOWER, "5/5/5/5/5 h") + alike("5/", "")
                      + rules("tafl") + rules(WIDE) + begin() + turn(HIGHER, 2))

    def test_what_is_handed_in_stays_as_it_was(self):
        handed = list(self.calls)
        tafllines.hall.answers(handed)
        self.assertEqual(handed, self.calls)

    def test_not_changed_for_a_while_either(self):
        class Still(list):
            def refuse(self, *given):
                raise AssertionError("what is handed in is changed")
            append = extend = insert = pop = remove = clear = reverse = sort = refuse
            __setitem__ = __delitem__ = __iadd__ = __imul__ = refuse
        self.assertEqual(tafllines.hall.answers(Still(self.calls)), tafllines.hall.answers(self.calls))

    def test_a_second_time_answers_as_the_first(self):
        first = tafllines.hall.answers(self.calls)
        self.assertEqual(tafllines.hall.answers(self.calls), first)

    def test_rules_of_an_earlier_time_are_gone(self):
        tafllines.hall.answers(rules(SMALL))
        for call in (begin(), turn(HIGHER, 0), least(HIGHER), alike(HIGHER, LOWER)):
            self.assertEqual(tafllines.hall.answers(call), [1, -3])

    def test_changing_what_was_answered_changes_no_later_answer(self):
        first = tafllines.hall.answers(self.calls)
        kept = list(first)
        first.clear()
        self.assertEqual(tafllines.hall.answers(self.calls), kept)


if __name__ == "__main__":
    unittest.main()
