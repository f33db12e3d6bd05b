"""The call rules: the faults 2 to 6 of texts that keep to the grammar."""

import unittest

from helper import SMALL_GROUND, SMALL_START, ask, hall_text, rules, rules_fault

PLAIN = ["....."] * 5
EMPTY = ["....."] * 5


# Rows with some of them put in place of the plain ones, by their index from above.
def rows(changes):
    return [changes.get(index, ".....") for index in range(5)]


class KindsTest(unittest.TestCase):

    # The mark ^ stands before the fault, in a row or a word; without one the fault is at the text's length.
    def assert_fault(self, kind, ground, start, **words):
        marked = hall_text(ground, start, **words)
        text = marked.replace("^", "")
        place = marked.index("^") if "^" in marked else len(text)
        self.assertEqual(ask(rules(text)), [rules_fault(kind, place)], text)

    def assert_right(self, ground, start, **words):
        text = hall_text(ground, start, **words)
        self.assertEqual(ask(rules(text)), [[0]], text)


class SecondSeat(KindsTest):

    def test_in_the_same_row_and_in_another(self):
        self.assert_fault(2, rows({2: "..S^S."}), rows({0: "h....", 1: ".K..."}))
        self.assert_fault(2, rows({1: "....S", 4: "^S...."}), rows({0: "h....", 1: ".K..."}))

    def test_the_second_of_three(self):
        self.assert_fault(2, rows({0: "S...^S", 4: "S...."}), rows({1: "hK..."}))

    def test_counts_before_later_faults(self):
        self.assert_fault(2, rows({0: "S^S...", 1: "#...."}), rows({0: "hhhhh", 1: "KK..."}), goal="exits",
                          seat="barred all")


class IllPlaced(KindsTest):

    def test_on_a_wall(self):
        for piece in "hmK":
            self.assert_fault(3, rows({1: "..#.."}), rows({0: "h....", 1: "..^" + piece + ".."}))

    def test_on_the_seat(self):
        for piece in "hm":
            self.assert_fault(3, rows({3: "...S."}), rows({0: "h....", 1: ".K...", 3: "...^" + piece + "."}))
        self.assert_right(rows({3: "...S."}), rows({0: "h....", 3: "...K."}))

    def test_on_an_exit(self):
        for piece in "hmK":
            self.assert_fault(3, rows({4: "....X"}), rows({0: "h....", 4: "....^" + piece}), goal="exits")

    def test_beside_them(self):
        ground = rows({1: ".#...", 2: "..S..", 3: "...X."})
        self.assert_right(ground, rows({1: "h.h..", 2: ".hKh.", 3: "..h.h"}), goal="exits")
        self.assert_right(ground, rows({0: ".m...", 1: "h.m..", 2: ".mKm.", 3: "..m.m"}), goal="exits")

    def test_the_ground_is_not_upside_down(self):
        self.assert_fault(3, rows({0: "#...."}), rows({0: "^h....", 1: ".K..."}))
        self.assert_right(rows({0: "#...."}), rows({4: "h....", 1: ".K..."}))

    def test_the_first_of_several(self):
        self.assert_fault(3, rows({0: "#X..S"}), rows({0: "^hmhhh", 1: ".K..."}))
        self.assert_fault(3, rows({0: "#X..S"}), rows({0: ".^mhhh", 1: ".K..."}))
        self.assert_fault(3, rows({0: "#X..S"}), rows({0: "..hh^h", 1: ".K..."}))

    def test_a_third_king(self):
        self.assert_fault(3, rows({0: "#...."}), rows({0: "^K....", 1: "hKK.."}))


class SecondKing(KindsTest):

    def test_in_the_same_row_and_in_another(self):
        self.assert_fault(4, PLAIN, rows({1: "hK^K.."}))
        self.assert_fault(4, PLAIN, rows({1: "hK...", 4: "....^K"}))

    def test_the_second_of_three(self):
        self.assert_fault(4, PLAIN, rows({1: "hK^K.K"}))

    def test_a_king_of_the_name_is_none(self):
        self.assert_right(PLAIN, rows({1: "hK..."}), name="KK")
        self.assert_right(rows({2: "..S.."}), rows({1: "hK..."}), name="SS")

    def test_at_one_place_with_kind_3_which_is_less(self):
        self.assert_fault(3, rows({2: "..#.."}), rows({1: "hK...", 2: "..^K.."}))
        self.assert_fault(3, rows({2: "..X.."}), rows({1: "hK...", 2: "..^K.."}), goal="exits")

    def test_on_the_seat_it_is_but_a_second_king(self):
        self.assert_fault(4, rows({2: "..S.."}), rows({1: "hK...", 2: "..^K.."}))

    def test_before_kind_3(self):
        self.assert_fault(4, rows({2: "..#.."}), rows({1: "hK^K..", 2: "..h.."}))

    def test_behind_kind_3(self):
        self.assert_fault(3, rows({0: "..#.."}), rows({0: "..^h..", 1: "hKK.."}))


class Goal(KindsTest):

    def test_exits_without_an_exit(self):
        self.assert_fault(5, PLAIN, rows({1: "hK..."}), goal="^exits")
        self.assert_fault(5, rows({0: "#....", 2: "..S.."}), rows({1: "hK..."}), goal="^exits")
        self.assert_right(rows({0: "X...."}), rows({1: "hK..."}), goal="exits")

    def test_edge_with_the_king_on_it(self):
        for x in range(5):
            for y in range(5):
                cells = [["."] * 5 for row in range(5)]
                cells[(y + 1) % 5][x] = "h"
                cells[y][x] = "K"
                start = ["".join(row) for row in cells]
                if x in (0, 4) or y in (0, 4):
                    self.assert_fault(5, PLAIN, start, goal="^edge")
                else:
                    self.assert_right(PLAIN, start, goal="edge")

    def test_exits_with_the_king_on_the_edge(self):
        for start in (rows({0: "hK..."}), rows({4: "...hK"}), rows({2: "K...h"}), rows({2: "h...K"})):
            self.assert_right(rows({3: "..X.."}), start, goal="exits")

    def test_edges_of_grounds_that_are_not_square(self):
        wide = ["............K" if y == 2 else "............." for y in range(5)]
        wide[1] = "h............"
        high = ["..K.." if y == 0 else "....." for y in range(13)]
        high[1] = "h...."
        for start in (wide, high, high[::-1], [row[::-1] for row in wide]):
            ground = ["." * len(start[0])] * len(start)
            text = hall_text(ground, start)
            self.assertEqual(ask(rules(text)), [rules_fault(5, text.index("edge"))])
        for x, y in ((4, 1), (11, 1), (1, 3), (11, 3)):
            start = ["." * 13 for row in range(5)]
            start[y] = "." * x + "K" + "." * (12 - x)
            start[0] = "h" * 13
            self.assert_right(["." * 13] * 5, start)
        for x, y in ((1, 4), (1, 11), (3, 1), (3, 11)):
            start = ["." * 5 for row in range(13)]
            start[y] = "." * x + "K" + "." * (4 - x)
            start[0] = "h" * 5
            self.assert_right(["." * 5] * 13, start)

    def test_edge_without_a_king_is_kind_6(self):
        self.assert_fault(6, PLAIN, rows({0: "hhhhh"}), goal="edge")

    def test_behind_kind_4(self):
        self.assert_fault(4, PLAIN, rows({0: "K.^K.h"}))
        self.assert_fault(4, PLAIN, rows({1: "hK^K.."}), goal="exits")

    def test_before_kind_6(self):
        self.assert_fault(5, PLAIN, EMPTY, goal="^exits")
        self.assert_fault(5, PLAIN, rows({0: "K...."}), goal="^edge")
        self.assert_fault(5, PLAIN, rows({0: "K...h"}), goal="^edge", seat="barred quiet")


class Missing(KindsTest):

    def test_no_king(self):
        self.assert_fault(6, PLAIN, rows({0: "hmhmh"}))
        self.assert_fault(6, PLAIN, rows({0: "hmhmh"}), name="K")

    def test_no_hunter(self):
        self.assert_fault(6, PLAIN, rows({1: ".K.m."}))
        self.assert_fault(6, PLAIN, rows({1: ".K.m."}), name="h")

    def test_nobody(self):
        self.assert_fault(6, PLAIN, EMPTY)

    def test_no_seat_though_its_line_speaks_of_it(self):
        for way in ("passed", "barred"):
            for enmity in ("quiet", "hunters", "men", "all"):
                seat = way + " " + enmity
                if seat == "passed quiet":
                    self.assert_right(PLAIN, SMALL_START, seat=seat)
                else:
                    self.assert_fault(6, PLAIN, SMALL_START, seat=seat)
                    self.assert_fault(6, PLAIN, SMALL_START, seat=seat, name="S")
                self.assert_right(SMALL_GROUND, SMALL_START, seat=seat)

    def test_behind_kind_3(self):
        self.assert_fault(3, rows({0: "#...."}), rows({0: "^m...."}))


if __name__ == "__main__":
    unittest.main()
