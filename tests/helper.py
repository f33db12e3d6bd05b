"""What the tests share: halls to play with, calls to hand in, and the answers taken apart again."""

import itertools

from tafllines.hall import answers


def signs(text):
    return list(text.encode("latin-1"))


def hall_text(ground, start, name="Hall", first="hunters", king="slides armed two", seat="passed quiet",
              exits="quiet", goal="edge", thrice="drawn", limit="100"):
    # A test marks a place by ^, which is no cell.
    wide = len(ground[0].replace("^", ""))
    rows = ["tafl %s %d %d" % (name, wide, len(ground)), "ground"] + list(ground)
    rows += ["start"] + list(start)
    rows += ["first " + first, "king " + king, "seat " + seat, "exits " + exits]
    rows += ["goal " + goal, "thrice " + thrice, "limit " + limit]
    return "".join(row + "\n" for row in rows)


# 5 wide, 5 high: the seat at c3 (28), exits at a1 (0) and e5 (56), walls at b1 (1) and d5 (55).
SMALL_GROUND = ["...#X", ".....", "..S..", ".....", "X#..."]
SMALL_START = ["..h..", "..m..", "hmKmh", "..m..", "..h.."]
SMALL = hall_text(SMALL_GROUND, SMALL_START)

# 13 wide, 5 high: the seat at g3 (32), an exit at m5 (64), a wall at a1 (0).
WIDE_GROUND = ["............X", ".............", "......S......", ".............", "#............"]
WIDE_START = [".............", "......h......", ".....hK......", ".............", "............m"]
WIDE = hall_text(WIDE_GROUND, WIDE_START)

# 5 wide, 13 high: the seat at c7 (80), an exit at a13 (156), a wall at e1 (4).
HIGH_GROUND = ["X...."] + ["....."] * 5 + ["..S.."] + ["....."] * 5 + ["....#"]
HIGH_START = ["....h"] + ["....."] * 5 + ["..K.."] + ["....."] * 5 + ["m...."]
HIGH = hall_text(HIGH_GROUND, HIGH_START)

# 13 wide, 13 high, all plain but the seat at g7 (84).
GREAT_GROUND = ["." * 13] * 6 + ["......S......"] + ["." * 13] * 6
GREAT_START = ["h" * 13] + ["." * 13] * 5 + ["mmmmmmKmmmmmm"] + ["." * 13] * 5 + ["h" * 13]
GREAT = hall_text(GREAT_GROUND, GREAT_START)

HALLS = (SMALL, WIDE, HIGH, GREAT)

# 7 wide, 7 high, and all turns fit it: the seat at d4 (42), exits in the corners, a wall in the middle of each edge.
ROUND_GROUND = ["X..#..X", ".......", ".......", "#..S..#", ".......", ".......", "X..#..X"]
ROUND_START = [".......", "...h...", "..mm...", ".h.K...", ".......", ".......", ".h....."]
ROUND = hall_text(ROUND_GROUND, ROUND_START)

# Lines at fault by the rules of ROUND, each with its fault's kind and place.
ROUND_FAULTS = (
    ("", 1, 0),
    ("7", 1, 1),
    ("8/7/7/7/7/7/7 h", 1, 0),
    ("34/7/7/7/7/7/7 h", 1, 1),
    ("K6/K6/7/7/7/7/7 h", 1, 3),
    ("7/7/7/7/7/7/7", 1, 13),
    ("7/7/7/7/7/7/7/7 h", 1, 13),
    ("7/7/7/7/7/7/7 ", 1, 14),
    ("7/7/7/7/7/7/7 m", 1, 14),
    ("7/7/7/7/7/7/7 h\n", 1, 15),
    ("7/7/7/7/7/7/7 k" + "k" * 985, 1, 15),
    ("3h3/7/7/7/7/7/7 h", 2, 1),
    ("7/7/7/7/7/7/m6 h", 2, 12),
    ("7/7/7/3m3/7/7/7 k", 2, 7),
    ("7/7/7/7/7/7/3K3 h", 2, 13),
    ("h6/7/7/K6/7/7/7 h", 2, 0),
)

# 7 wide, 5 high; what fits it are the turns 0, 2, 4, 6.
OBLONG_GROUND = ["X.....X", ".......", "#..S..#", ".......", "X.....X"]
OBLONG_START = [".......", "..h.m..", "...K...", ".......", "..h...."]
OBLONG = hall_text(OBLONG_GROUND, OBLONG_START)

# Grounds, each with the turns that fit it: of square ones, one for each choice of turns that there can be.
GROUNDS = (
    (("X.#.X", ".....", "#.S.#", ".....", "X.#.X"), [0, 1, 2, 3, 4, 5, 6, 7]),
    (("...X.", "X....", "..S..", "....X", ".X..."), [0, 1, 2, 3]),
    (("..#..", ".....", "..S..", ".....", "..#.."), [0, 2, 4, 6]),
    (("....X", ".....", ".....", ".....", "X...."), [0, 2, 5, 7]),
    (("...#X", ".....", "..S..", ".....", "X#..."), [0, 2]),
    ((".....", ".....", "..S..", ".....", "X...X"), [0, 4]),
    ((".....", ".....", ".....", ".S...", "....."), [0, 5]),
    (("#....", ".....", ".....", ".....", "#...."), [0, 6]),
    (("X....", ".....", ".....", ".....", "....."), [0, 7]),
    ((".....", ".....", ".....", ".....", ".#..."), [0]),
    (("X....X", "..##..", ".#..#.", ".#..#.", "..##..", "X....X"), [0, 1, 2, 3, 4, 5, 6, 7]),
    (tuple(ROUND_GROUND), [0, 1, 2, 3, 4, 5, 6, 7]),
    (tuple(GREAT_GROUND), [0, 1, 2, 3, 4, 5, 6, 7]),
    (tuple(OBLONG_GROUND), [0, 2, 4, 6]),
    (("......", "......", "......", "......", "......"), [0, 2, 4, 6]),
    (("......", "X.....", "......", ".....X", "......"), [0, 2]),
    (("......", "......", "......", "......", "#....#"), [0, 4]),
    (("......", "......", "S.....", "......", "......"), [0, 6]),
    (tuple(WIDE_GROUND), [0]),
    (("X.#.X", ".....", ".....", "..S..", ".....", ".....", "X.#.X"), [0, 2, 4, 6]),
    (("#....", ".....", ".....", ".....", ".....", "....#"), [0, 2]),
    (("..S..", ".....", ".....", ".....", ".....", "....."), [0, 4]),
    (("X....", ".....", ".....", ".....", ".....", "X...."), [0, 6]),
    (tuple(HIGH_GROUND), [0]),
)


# A row of a line, by the signs of its cells.
def gaps_counted(cells):
    text = ""
    for nobody, run in itertools.groupby(cells, lambda sign: sign == "."):
        run = "".join(run)
        text += str(len(run)) if nobody else run
    return text


# The start isn't looked at by turns, so that any will do: the king and one hunter where they may stand.
def hall_on(ground):
    start = [["."] * len(ground[0]) for cells in ground]
    inner = [(y, x) for y in range(1, len(ground) - 1) for x in range(1, len(ground[0]) - 1) if ground[y][x] == "."]
    start[inner[0][0]][inner[0][1]] = "K"
    start[inner[1][0]][inner[1][1]] = "h"
    return hall_text(ground, ["".join(cells) for cells in start])


# A picture shows a position or a ground: rows of signs, the uppermost first. This turns it as a sheet is turned.
def picture_turned(picture, by):
    if by >= 4:
        picture = [cells[::-1] for cells in picture]
    for quarter in range(by % 4):
        picture = ["".join(column) for column in zip(*picture[::-1])]
    return list(picture)


# By hunters as a number, then men likewise, then the king's cell, then whose turn it is.
def picture_rank(picture, side):
    cells = {sign: [] for sign in ".hmK"}
    for y, signs_of_row in enumerate(reversed(picture)):
        for x, sign in enumerate(signs_of_row):
            cells[sign].append(13 * y + x)
    king = cells["K"][0] if cells["K"] else 255
    return sum(2 ** cell for cell in cells["h"]), sum(2 ** cell for cell in cells["m"]), king, side


# Right by the ground; of 100 cells about so many have a piece.
def random_picture(source, ground, of_hundred):
    picture = []
    for cells in ground:
        picture.append([source.choice("hm") if sign == "." and source.randrange(100) < of_hundred else "."
                        for sign in cells])
    if source.randrange(4) > 0:
        open_cells = [(y, x) for y, cells in enumerate(ground) for x, sign in enumerate(cells) if sign != "#"]
        y, x = source.choice(open_cells)
        picture[y][x] = "K"
    return ["".join(cells) for cells in picture]


def picture_line(picture, side):
    return "/".join(gaps_counted(cells) for cells in picture) + " " + "hk"[side]


def row(numbers):
    return [len(numbers)] + list(numbers)


def text_row(text):
    return row(signs(text) if isinstance(text, str) else text)


def rules(text):
    return [0] + text_row(text)


def begin():
    return [1]


def read(line):
    return [2] + text_row(line)


def write(hunters, men, king, side):
    return [3, king, side] + row(hunters) + row(men)


def turn(line, by):
    return [4, by] + text_row(line)


def least(line):
    return [5] + text_row(line)


def alike(line, other):
    return [6] + text_row(line) + text_row(other)


def apart(told):
    parts = []
    place = 0
    while place < len(told):
        parts.append(told[place + 1:place + 1 + told[place]])
        assert len(parts[-1]) == told[place]
        place += 1 + told[place]
    return parts


# The answers to several calls on one new object, a list each.
def ask(*calls):
    return apart(answers([number for call in calls for number in call]))


# The answer to one call by a right text's rules.
def ask_by(text, call):
    told = ask(rules(text), call)
    assert told[0] == [0], told[0]
    return told[1]


# The answers to many calls by a right text's rules, as many at a time as may be handed in.
def ask_many(text, calls):
    told = []
    several = [rules(text)]
    for call in list(calls) + [None]:
        if call is None or len(several) == 300 or sum(map(len, several)) + len(call) > 30000:
            several_told = ask(*several)
            assert several_told[0] == [0], several_told[0]
            told += several_told[1:]
            several = [rules(text)]
        several.append(call)
    return told


def said_line(text):
    return [0] + text_row(text)


def said_least(by, text):
    return [0, by] + text_row(text)


def said_position(hunters, men, king, side):
    return [0] + row(hunters) + row(men) + [king, side]


def rules_fault(kind, place):
    return [-6, kind, place]


def line_fault(kind, place):
    return [-5, kind, place]
