"""The function answers itself: how calls come in, how answers go out, and what is kept (nothing)."""

import unittest

import tafllines.hall
from helper import GREAT, SMALL, WIDE, alike, ask, begin, least, line_fault, read, rules, signs, turn, write

SMALL_START_LINE = "2h2/2m2/hmKmh/2m2/2h2 h"


class WithoutRules(unittest.TestCase):

    def test_each_call_but_rules(self):
        for call in (begin(), read(SMALL_START_LINE), read(""), read([255] * 1000), write([], [], 255, 0),
                     write([3, 2], [4294967295], 4294967295, 4294967295), turn(SMALL_START_LINE, 0), turn("", 9),
                     least(SMALL_START_LINE), least(""), alike(SMALL_START_LINE, SMALL_START_LINE), alike("", "")):
            self.assertEqual(ask(call), [[-3]], call)

    def test_the_next_call_is_found_behind_each(self):
        calls = [begin(), read("5/5"), write([1, 2, 3], [0], 0, 0), turn("0123", 6), least("54"), alike("1", "22")]
        self.assertEqual(ask(*calls), [[-3]] * 6)
        self.assertEqual(ask(*(calls + [rules(SMALL), begin()]))[6:], [[0], [0, 23] + signs(SMALL_START_LINE)])


class Answers(unittest.TestCase):

    def test_counts_stand_ahead(self):
        calls = rules(SMALL) + begin() + read("5/5/5/5/2hK1 k") + read("6") + write([2], [], 3, 1) + write([], [], 1, 0)
        line = signs("5/5/5/5/2hK1 k")
        told = [1, 0] + [25, 0, 23] + signs(SMALL_START_LINE) + [6, 0, 1, 2, 0, 3, 1] + [3, -5, 1, 0]
        told += [16, 0, 14] + line + [1, -8]
        self.assertEqual(tafllines.hall.answers(calls), told)

    def test_faults_of_rules(self):
        self.assertEqual(tafllines.hall.answers([0, 0]), [3, -6, 1, 0])
        self.assertEqual(tafllines.hall.answers([0, 1, 116]), [3, -6, 1, 1])

    def test_whole_numbers_alone(self):
        calls = rules(SMALL) + begin() + read(SMALL_START_LINE) + read("") + write([2], [3], 28, 1) + rules("tafl")
        told = tafllines.hall.answers(calls)
        self.assertIs(type(told), list)
        self.assertEqual({type(number) for number in told}, {int})

    def test_refused_calls_change_nothing(self):
        good = [begin(), read(SMALL_START_LINE), write([2], [3], 28, 0)]
        refused = [rules(""), rules(WIDE[:-1]), rules(WIDE + "x"), rules(WIDE.replace("K", ".")), read(""),
                   read("3h1/5/5/5/5 h"), write([1], [], 255, 0), write([3, 2], [], 255, 0)]
        plain = ask(rules(SMALL), *good)[1:]
        for call in refused:
            told = ask(rules(SMALL), call, *good)
            self.assertLess(told[1][0], 0)
            self.assertEqual(told[2:], plain)

    def test_right_calls_but_rules_change_nothing(self):
        good = [begin(), read("5/5/5/5/5 k"), write([2], [3], 255, 1)]
        plain = ask(rules(SMALL), *good)[1:]
        self.assertEqual(ask(rules(SMALL), *(good * 3))[1:], plain * 3)

    def test_as_many_calls_as_may_come(self):
        told = ask(*([rules(SMALL)] + [begin()] * 299))
        self.assertEqual(len(told), 300)
        self.assertEqual(told[1:], [told[1]] * 299)
        calls = [rules(SMALL)] + [read("5/5/5/5/5 h" + "h" * 989)] * 29
        self.assertEqual(ask(*calls)[1:], [line_fault(1, 11)] * 29)

    def test_long_rows(self):
        cells = [4294967295] * 200
        self.assertEqual(ask(rules(GREAT), write(cells, cells, 4294967295, 4294967295))[1], [-8])
        self.assertEqual(ask(rules([116] * 1000))[0], [-6, 1, 1])


class NothingIsKept(unittest.TestCase):

    def setUp(self):
        self.calls = (rules(SMALL) + begin() + read(SMALL_START_LINE) + read("5/") + write([2, 3], [4], 28, 1)
                      + write([3, 2], [1], 28, 1) + rules("tafl") + rules(WIDE) + begin())

    def test_what_is_handed_in_stays_as_it_was(self):
        handed = list(self.calls)
        tafllines.hall.answers(handed)
        self.assertEqual(handed, self.calls)

    def test_not_changed_for_a_while_either(self):
        class Still(list):
            def refuse(self, *given):
                raise AssertionError("what is handed in is changed")
            append = extend = insert = pop = remove = clear = reverse = sort = refuse
            __setitem__ = __delitem__ = __iadd__ = __imul__ = refuse
        self.assertEqual(tafllines.hall.answers(Still(self.calls)), tafllines.hall.answers(self.calls))

    def test_a_second_time_answers_as_the_first(self):
        first = tafllines.hall.answers(self.calls)
        self.assertEqual(tafllines.hall.answers(self.calls), first)

    def test_rules_of_an_earlier_time_are_gone(self):
        tafllines.hall.answers(rules(SMALL))
        self.assertEqual(tafllines.hall.answers(begin()), [1, -3])

    def test_changing_what_was_answered_changes_no_later_answer(self):
        first = tafllines.hall.answers(self.calls)
        kept = list(first)
        first.clear()
        self.assertEqual(tafllines.hall.answers(self.calls), kept)


if __name__ == "__main__":
    unittest.main()
