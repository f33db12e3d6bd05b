"""The call rules: right texts, and the faults by the grammar."""

import unittest

from helper import (GREAT, HALLS, HIGH, SMALL, SMALL_GROUND, SMALL_START, WIDE, ask, begin, hall_text, rules,
                    rules_fault, said_line, signs)
from tafllines.grammar import rules_of

LETTERS = "ABCDEFGHIJKLMNOPQRSTUVWXYZabcdefghijklmnopqrstuvwxyz"
DIGITS = "0123456789"
ENMITIES = ["quiet", "hunters", "men", "all"]
SMALL_HEAD = "tafl Hall 5 5\n"
WIDE_KINGLESS = WIDE.replace("K", ".")


def small(**words):
    return hall_text(SMALL_GROUND, SMALL_START, **words)


# The tokens of SMALL, each as all the texts that may stand in its place.
def small_tokens():
    rows_of_ground = [list(".SX#")] * 5 + [["\n"]]
    rows_of_start = [list(".hmK")] * 5 + [["\n"]]
    tokens = [["tafl Hall 5 5\nground\n"]] + rows_of_ground * 5 + [["start\n"]] + rows_of_start * 5
    tokens += [["first "], ["hunters", "king"], ["\nking "], ["slides", "steps"], [" "], ["armed", "bare"], [" "]]
    tokens += [["two", "four"], ["\nseat "], ["passed", "barred"], [" "], ENMITIES, ["\nexits "], ENMITIES]
    tokens += [["\ngoal "], ["edge", "exits"], ["\nthrice "], ["drawn", "hunters", "king"], ["\nlimit "]]
    return tokens + [[str(number) for number in range(1, 60001)], ["\n"], [""]]


# The signs that go on behind what is begun of a token (the next token's first ones too, where it may end there).
def signs_behind(begun, choices, next_choices):
    allowed = {choice[len(begun)] for choice in choices if choice != begun and choice.startswith(begun)}
    if begun in choices:
        allowed |= {choice[:1] for choice in next_choices}
    return allowed


# For each place of the text, which signs go on there, by trying all that may stand in a token's place.
def signs_that_go_on(text, tokens):
    going_on = []
    left = text
    for choices, next_choices in zip(tokens, tokens[1:]):
        taken = max((choice for choice in choices if left.startswith(choice)), key=len)
        # What goes on behind the whole token is told here, and so the next token begins with its second place.
        first = 0 if not going_on else 1
        going_on += [signs_behind(taken[:length], choices, next_choices) for length in range(first, len(taken) + 1)]
        left = left[len(taken):]
    assert left == ""
    return going_on[:len(text)]


class FaultTest(unittest.TestCase):

    def assert_right(self, text):
        self.assertEqual(ask(rules(text)), [[0]], text)

    def assert_fault(self, text, kind, place):
        self.assertEqual(ask(rules(text)), [rules_fault(kind, place)], text)

    # The fault is where the mark ^ stands in the text, which is taken out of it first.
    def assert_fault_at_mark(self, text, kind=1):
        self.assertEqual(text.count("^"), 1, text)
        self.assert_fault(text.replace("^", ""), kind, text.index("^"))


class RightTexts(FaultTest):

    def test_sizes(self):
        for text in HALLS:
            self.assert_right(text)
        for wide in range(5, 14):
            for high in range(5, 14):
                start = ["h" * wide, ".K" + "." * (wide - 2)] + ["." * wide] * (high - 2)
                self.assert_right(hall_text(["." * wide] * high, start))

    def test_each_word_of_each_choice(self):
        for words in (dict(first="hunters"), dict(first="king"), dict(goal="edge"), dict(goal="exits"),
                      dict(thrice="drawn"), dict(thrice="hunters"), dict(thrice="king")):
            self.assert_right(small(**words))
        for gait in ("slides", "steps"):
            for arms in ("armed", "bare"):
                for takers in ("two", "four"):
                    self.assert_right(small(king=" ".join([gait, arms, takers])))
        for enmity in ENMITIES:
            self.assert_right(small(exits=enmity))
            for way in ("passed", "barred"):
                self.assert_right(small(seat=way + " " + enmity))

    def test_names(self):
        for name in ("A", "z", "Z", "a", "K9", "A23456789abcdefZ", "hHmMkKsSxXtTaAfF"):
            self.assert_right(small(name=name))

    def test_limits(self):
        for limit in (1, 2, 9, 10, 99, 100, 999, 1000, 5999, 6000, 6001, 9999, 10000, 59999, 60000):
            self.assert_right(small(limit=str(limit)))

    def test_king_on_the_edge_with_exits_for_a_goal(self):
        start = ["K.h..", ".....", ".....", ".....", "....."]
        self.assert_right(hall_text(SMALL_GROUND, start, goal="exits"))

    def test_no_seat_where_none_is_needed(self):
        ground = [".....", ".....", ".....", ".....", "....."]
        self.assert_right(hall_text(ground, SMALL_START, seat="passed quiet"))

    def test_king_off_the_seat(self):
        self.assert_right(hall_text(SMALL_GROUND, [".....", ".K...", ".....", "...h.", "....."], seat="barred all"))

    def test_a_hall_without_men(self):
        self.assert_right(hall_text(SMALL_GROUND, ["..h..", ".....", "..K..", ".....", "....."]))


class WhatTextsSay(unittest.TestCase):

    def assert_says(self, words, **values):
        said = rules_of(signs(small(**words)))
        self.assertEqual({name: getattr(said, name) for name in values}, values)

    def test_choices(self):
        for number, word in enumerate(("hunters", "king")):
            self.assert_says(dict(first=word), first=number)
        self.assert_says(dict(king="slides bare two"), slides=1, armed=0, four=0)
        self.assert_says(dict(king="steps armed two"), slides=0, armed=1, four=0)
        self.assert_says(dict(king="steps bare four"), slides=0, armed=0, four=1)
        for number, word in enumerate(ENMITIES):
            self.assert_says(dict(seat="passed " + word, exits="men"), passed=1, seat=number, exits=2)
            self.assert_says(dict(seat="barred all", exits=word), passed=0, seat=3, exits=number)
        for number, word in enumerate(("edge", "exits")):
            self.assert_says(dict(goal=word), goal=number)
        for number, word in enumerate(("drawn", "hunters", "king")):
            self.assert_says(dict(thrice=word), thrice=number)

    def test_sizes_and_limits(self):
        for limit in (1, 10, 60000):
            self.assert_says(dict(limit=str(limit)), limit=limit, wide=5, high=5)
        said = rules_of(signs(WIDE))
        self.assertEqual((said.wide, said.high), (13, 5))

    def test_cells(self):
        kinds = rules_of(signs(SMALL)).kinds
        self.assertEqual(sorted(kinds), [13 * y + x for y in range(5) for x in range(5)])
        unlike = {cell: kind for cell, kind in kinds.items() if kind != 0}
        self.assertEqual(unlike, {0: 2, 1: 3, 28: 1, 55: 3, 56: 2})


class Grammar(FaultTest):

    def test_empty_text(self):
        self.assert_fault("", 1, 0)

    def test_cut_short_anywhere(self):
        for text in (SMALL, WIDE, HIGH, GREAT, small(name="A23456789abcdefZ", limit="60000")):
            for place in range(len(text)):
                self.assert_fault(text[:place], 1, place)

    def test_bytes_behind_the_end(self):
        for text in HALLS:
            for more in ("\n", " ", "0", "x", "\0", "\xff", "tafl", text):
                self.assert_fault(text + more, 1, len(text))
        self.assert_fault(SMALL + "z" * (1000 - len(SMALL)), 1, len(SMALL))

    def test_a_byte_that_goes_on_nowhere(self):
        for text in HALLS:
            for place in range(len(text)):
                for byte in (0, 9, 13, 127, 128, 128 + ord(text[place]), 255):
                    wrong = signs(text)
                    wrong[place] = byte
                    self.assert_fault(wrong, 1, place)

    def test_a_byte_left_out_or_put_in(self):
        self.assert_fault_at_mark(SMALL.replace("tafl ", "taf^ "))
        self.assert_fault_at_mark(SMALL.replace("tafl ", "tafl^l "))
        self.assert_fault_at_mark("^ " + SMALL)
        self.assert_fault_at_mark("^\n" + SMALL)
        self.assert_fault_at_mark("^" + SMALL[1:])
        self.assert_fault_at_mark(SMALL.replace("5 5", "5 ^ 5"))
        self.assert_fault_at_mark(SMALL.replace("\nground", "^ \nground"))
        self.assert_fault_at_mark(SMALL.replace("\nground", "\n^\nground"))
        self.assert_fault_at_mark(SMALL.replace("\nground", "^\r\nground"))

    def test_every_byte_at_every_place(self):
        text = small(limit="6000")
        for place, allowed in enumerate(signs_that_go_on(text, small_tokens())):
            # What goes on in the head is told by the tests of names and sizes.
            if place < len(SMALL_HEAD):
                continue
            for byte in range(256):
                wrong = signs(text)
                wrong[place] = byte
                told = ask(rules(wrong))[0]
                if chr(byte) in allowed:
                    self.assertTrue(told[:2] != [-6, 1] or told[2] > place, (place, byte, told))
                else:
                    self.assertEqual(told, rules_fault(1, place), (place, byte))

    def test_names(self):
        for name in ("^", "^1", "^9a", "^_", "a^_", "a^-b", "Ab^\xe9", "^\xe9", "a^.", "a^\n", "a^@", "a^[", "a^`",
                     "a^{", "a^/", "a^:", "^@", "^[", "^`", "^{", "abcdefghijklmnop^q", "A123456789012345^6",
                     "a ^b"):
            self.assert_fault_at_mark(small(name=name))

    def test_name_letters_and_digits(self):
        for sign in LETTERS:
            self.assert_right(small(name=sign))
        for sign in LETTERS + DIGITS:
            self.assert_right(small(name="q" + sign))
        for byte in range(256):
            if chr(byte) not in LETTERS:
                self.assert_fault(small(name=chr(byte)), 1, len("tafl "))
            if chr(byte) not in LETTERS + DIGITS + " ":
                self.assert_fault(small(name="q" + chr(byte)), 1, len("tafl q"))

    def test_sizes(self):
        for size in ("^", "^0", "^05", "^4", "^2", "^3", "^-5", "^+5", "1^", "1^4", "1^5", "1^9",
                     "10^0", "13^0", "12^5", "5^0", "5^5", "9^9", "^ 5", "5^.", "^x", "^five", "^\xb5"):
            self.assert_fault_at_mark(SMALL.replace("5 5", size + " 5"))
            self.assert_fault_at_mark(SMALL.replace("5 5", "5 " + size))

    def test_other_sizes_than_the_rows(self):
        first_row = len("tafl Hall 5 5\nground\n")
        for size in range(6, 10):
            self.assert_fault(SMALL.replace("5 5", "%d 5" % size), 1, first_row + 5)
        for size in range(10, 14):
            self.assert_fault(SMALL.replace("5 5", "%d 5" % size), 1, first_row + 6)
        self.assert_fault(SMALL.replace("5 5", "5 6"), 1, SMALL.index("start"))
        self.assert_fault(SMALL.replace("5 5", "5 13"), 1, SMALL.index("start") + 1)

    def test_rows_too_short_or_too_long(self):
        self.assert_fault_at_mark(SMALL.replace("\n..S..\n", "\n..S.^\n"))
        self.assert_fault_at_mark(SMALL.replace("\n..S..\n", "\n^\n"))
        self.assert_fault_at_mark(SMALL.replace("\n..S..\n", "\n..S..^.\n"))
        self.assert_fault_at_mark(SMALL.replace("\n..S..\n", "\n..S..^.....\n"))
        self.assert_fault_at_mark(SMALL.replace("\nhmKmh\n", "\nhmKm^\n"))
        self.assert_fault_at_mark(SMALL.replace("\nhmKmh\n", "\nhmKmh^h\n"))

    def test_too_few_or_too_many_rows(self):
        self.assert_fault_at_mark(SMALL.replace("\nX#...\nstart", "\n^start"))
        self.assert_fault_at_mark(SMALL.replace("\nX#...\nstart", "\nX#...\n^.....\nstart"))
        self.assert_fault_at_mark(SMALL.replace("..h..\nfirst", "^first"))
        self.assert_fault_at_mark(SMALL.replace("\nfirst", "\n^.....\nfirst"))

    def test_signs_of_the_other_rows(self):
        for sign in "hmKsxW ":
            self.assert_fault_at_mark(SMALL.replace("\n..S..\n", "\n..^" + sign + "..\n"))
        for sign in "SX#HMk1":
            self.assert_fault_at_mark(SMALL.replace("\nhmKmh\n", "\nhm^" + sign + "mh\n"))

    def test_words(self):
        for words in (dict(first="^"), dict(first="^men"), dict(first="h^hunters"), dict(first="hunters^s"),
                      dict(first="hunter^"), dict(first="^King"), dict(first="king^ "),
                      dict(king="s^a armed two"), dict(king="sl^oops armed two"),
                      dict(king="st^lides armed two"), dict(king="sl^eps armed two"), dict(king="slides ^two"),
                      dict(king="slides bar^red two"), dict(king="slides armed t^four"),
                      dict(king="slides armed^"), dict(king="slides^\tarmed two"),
                      dict(seat="^quiet"), dict(seat="passed^"), dict(seat="bar^ed all"), dict(seat="passed ^king"),
                      dict(seat="passed al^"), dict(seat="passed all^ "), dict(exits="^"), dict(exits="^none"),
                      dict(exits="m^an"), dict(exits="hunters^ men"), dict(goal="e^"), dict(goal="e^nd"),
                      dict(goal="ed^its"), dict(goal="ex^ge"), dict(goal="exit^"), dict(thrice="d^"),
                      dict(thrice="^men"), dict(thrice="drawn^n"), dict(thrice="king^s")):
            self.assert_fault_at_mark(small(**words))

    def test_lines_in_another_order(self):
        self.assert_fault_at_mark(SMALL.replace("seat passed quiet\n", "^"))
        self.assert_fault_at_mark(SMALL.replace("seat passed", "^exits quiet\nseat passed"))
        self.assert_fault_at_mark(SMALL.replace("thrice drawn\n", "^"))
        self.assert_fault_at_mark(SMALL.replace("goal edge\n", "goal edge\n^goal edge\n"))

    def test_limits(self):
        for limit in ("^", "^0", "^01", "^00", "^-1", "60000^0", "6000^1", "6000^9", "6001^0", "6010^0", "6100^0",
                      "7000^0", "9999^9", "10000^0", "12345^6", "1^.", "1^,000", "1^ ", "^x", "1^a", "1^\xb2",
                      "10000^00000000000000000000"):
            self.assert_fault_at_mark(small(limit=limit))

    def test_grammar_counts_before_the_other_kinds(self):
        text = hall_text(["S.S..", ".....", ".....", ".....", "....."], ["K.h.K", ".....", ".....", ".....", "....."],
                         limit="^0")
        self.assert_fault_at_mark(text)


class InPlaceOfEarlierOnes(unittest.TestCase):

    def test_a_right_text_takes_the_earlier_ones_place(self):
        told = ask(rules(SMALL), begin(), rules(WIDE), begin(), rules(SMALL), begin())
        self.assertEqual(told[0::2], [[0], [0], [0]])
        self.assertEqual(told[1], said_line("2h2/2m2/hmKmh/2m2/2h2 h"))
        self.assertEqual(told[3], said_line("13/6h6/5hK6/13/12m h"))
        self.assertEqual(told[5], told[1])

    def test_a_refused_text_leaves_the_earlier_rules(self):
        refused = ["", SMALL[:-1], WIDE_KINGLESS, SMALL + "x"]
        for text in refused:
            told = ask(rules(SMALL), begin(), rules(text), begin())
            self.assertEqual(told[2][0], -6)
            self.assertEqual(told[3], told[1])

    def test_a_refused_text_leaves_a_new_object_without_rules(self):
        self.assertEqual(ask(rules(SMALL[:-1]), begin()), [rules_fault(1, len(SMALL) - 1), [-3]])


if __name__ == "__main__":
    unittest.main()
