"""What the tests share: halls to play with, calls to hand in, and the answers taken apart again."""

import itertools

from tafllines.hall import answers


def signs(text):
    return list(text.encode("latin-1"))


def hall_text(ground, start, name="Hall", first="hunters", king="slides armed two", seat="passed quiet",
              exits="quiet", goal="edge", thrice="drawn", limit="100"):
    # A test marks a place by ^, which is no cell.
    wide = len(ground[0].replace("^", ""))
    rows = ["tafl %s %d %d" % (name, wide, len(ground)), "ground"] + list(ground)
    rows += ["start"] + list(start)
    rows += ["first " + first, "king " + king, "seat " + seat, "exits " + exits]
    rows += ["goal " + goal, "thrice " + thrice, "limit " + limit]
    return "".join(row + "\n" for row in rows)


# 5 wide, 5 high: the seat at c3 (28), exits at a1 (0) and e5 (56), walls at b1 (1) and d5 (55).
SMALL_GROUND = ["...#X", ".....", "..S..", ".....", "X#..."]
SMALL_START = ["..h..", "..m..", "hmKmh", "..m..", "..h.."]
SMALL = hall_text(SMALL_GROUND, SMALL_START)

# 13 wide, 5 high: the seat at g3 (32), an exit at m5 (64), a wall at a1 (0).
WIDE_GROUND = ["............X", ".............", "......S......", ".............", "#............"]
WIDE_START = [".............", "......h......", ".....hK......", ".............", "............m"]
WIDE = hall_text(WIDE_GROUND, WIDE_START)

# 5 wide, 13 high: the seat at c7 (80), an exit at a13 (156), a wall at e1 (4).
HIGH_GROUND = ["X...."] + ["....."] * 5 + ["..S.."] + ["....."] * 5 + ["....#"]
HIGH_START = ["....h"] + ["....."] * 5 + ["..K.."] + ["....."] * 5 + ["m...."]
HIGH = hall_text(HIGH_GROUND, HIGH_START)

# 13 wide, 13 high, all plain but the seat at g7 (84).
GREAT_GROUND = ["." * 13] * 6 + ["......S......"] + ["." * 13] * 6
GREAT_START = ["h" * 13] + ["." * 13] * 5 + ["mmmmmmKmmmmmm"] + ["." * 13] * 5 + ["h" * 13]
GREAT = hall_text(GREAT_GROUND, GREAT_START)

HALLS = (SMALL, WIDE, HIGH, GREAT)


# A row of a line, by the signs of its cells.
def gaps_counted(cells):
    text = ""
    for nobody, run in itertools.groupby(cells, lambda sign: sign == "."):
        run = "".join(run)
        text += str(len(run)) if nobody else run
    return text


def row(numbers):
    return [len(numbers)] + list(numbers)


def text_row(text):
    return row(signs(text) if isinstance(text, str) else text)


def rules(text):
    return [0] + text_row(text)


def begin():
    return [1]


def read(line):
    return [2] + text_row(line)


def write(hunters, men, king, side):
    return [3, king, side] + row(hunters) + row(men)


def turn(line, by):
    return [4, by] + text_row(line)


def least(line):
    return [5] + text_row(line)


def alike(line, other):
    return [6] + text_row(line) + text_row(other)


def apart(told):
    parts = []
    place = 0
    while place < len(told):
        parts.append(told[place + 1:place + 1 + told[place]])
        assert len(parts[-1]) == told[place]
        place += 1 + told[place]
    return parts


# The answers to several calls on one new object, a list each.
def ask(*calls):
    return apart(answers([number for call in calls for number in call]))


# The answer to one call by a right text's rules.
def ask_by(text, call):
    told = ask(rules(text), call)
    assert told[0] == [0], told[0]
    return told[1]


def said_line(text):
    return [0] + text_row(text)


def said_position(hunters, men, king, side):
    return [0] + row(hunters) + row(men) + [king, side]


def rules_fault(kind, place):
    return [-6, kind, place]


def line_fault(kind, place):
    return [-5, kind, place]
