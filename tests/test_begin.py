"""The call begin: the line of the start."""

import unittest

from helper import (GREAT, GREAT_GROUND, GREAT_START, HALLS, HIGH, SMALL, SMALL_GROUND, SMALL_START, WIDE, ask, ask_by,
                    begin, hall_text, read, rules, said_line)


class Begin(unittest.TestCase):

    def test_hunters_first(self):
        self.assertEqual(ask_by(SMALL, begin()), said_line("2h2/2m2/hmKmh/2m2/2h2 h"))
        self.assertEqual(ask_by(WIDE, begin()), said_line("13/6h6/5hK6/13/12m h"))
        self.assertEqual(ask_by(HIGH, begin()), said_line("4h/5/5/5/5/5/2K2/5/5/5/5/5/m4 h"))
        self.assertEqual(ask_by(GREAT, begin()), said_line(
            "hhhhhhhhhhhhh/13/13/13/13/13/mmmmmmKmmmmmm/13/13/13/13/13/hhhhhhhhhhhhh h"))

    def test_king_first(self):
        text = hall_text(SMALL_GROUND, SMALL_START, first="king")
        self.assertEqual(ask_by(text, begin()), said_line("2h2/2m2/hmKmh/2m2/2h2 k"))
        text = hall_text(GREAT_GROUND, GREAT_START, first="king")
        self.assertEqual(ask_by(text, begin())[-1], ord("k"))

    def test_other_choices_do_not_tell_who_is_first(self):
        text = hall_text(SMALL_GROUND, SMALL_START, thrice="king", exits="hunters", seat="barred men", goal="exits")
        self.assertEqual(ask_by(text, begin()), said_line("2h2/2m2/hmKmh/2m2/2h2 h"))

    def test_walls_are_cells_without_a_piece(self):
        text = hall_text(["#####", ".....", "#.#.#", ".....", "#...#"], [".....", "h.h.h", ".K.m.", ".m.h.", ".m..."])
        self.assertEqual(ask_by(text, begin()), said_line("5/h1h1h/1K1m1/1m1h1/1m3 h"))

    def test_the_start_is_right(self):
        for text in HALLS:
            line = ask_by(text, begin())[2:]
            self.assertEqual(ask_by(text, read(line))[0], 0)

    def test_again_and_again(self):
        told = ask(rules(SMALL), begin(), begin(), read("5/5/5/5/5 k"), begin())
        self.assertEqual(told[1], told[2])
        self.assertEqual(told[1], told[4])


if __name__ == "__main__":
    unittest.main()
