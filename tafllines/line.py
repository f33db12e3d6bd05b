"""A position's line: how it's written, and how it's read."""

from tafllines.cells import KING, NOBODY, PIECE_SIGNS, Mark, cell_number, may_stand
from tafllines.position import pieces_of, position_of
from tafllines.refusals import LineFault
from tafllines.scan import Scan, Stuck

# The index of a sign here is the number of the side whose turn it is.
SIDE_SIGNS = ("h", "k")


def gap_text(gap):
    return str(gap) if gap > 0 else ""


def row_text(rules, pieces, y):
    text = ""
    gap = 0
    for x in range(rules.wide):
        piece = pieces.get(cell_number(x, y), NOBODY)
        if piece == NOBODY:
            gap = gap + 1
        else:
            text = text + gap_text(gap) + PIECE_SIGNS[piece]
            gap = 0
    return text + gap_text(gap)


# Only for right positions, of which no cell has two pieces.
def line_of(rules, position):
    pieces = dict(pieces_of(position))
    rows = [row_text(rules, pieces, y) for y in range(rules.high - 1, -1, -1)]
    text = "/".join(rows) + " " + SIDE_SIGNS[position.side]
    return [ord(sign) for sign in text]


def piece_ahead(scan):
    for piece, sign in enumerate(PIECE_SIGNS):
        if piece != NOBODY and ord(sign) == scan.ahead():
            return piece
    return NOBODY


def has_king(marks):
    return len([mark for mark in marks if mark.sign == KING]) > 0


# A number tells a whole gap, so that a piece must come between it and another number.
def take_row(scan, wide, y, marks):
    x = 0
    behind_number = False
    while x < wide:
        piece = piece_ahead(scan)
        if piece != NOBODY:
            if piece == KING and has_king(marks):
                raise Stuck()
            marks.append(Mark(scan.place, cell_number(x, y), piece))
            scan.go_on()
            x = x + 1
            behind_number = False
        else:
            if behind_number:
                raise Stuck()
            x = x + scan.take_number(1, wide - x)
            behind_number = True


def take_board(scan, rules):
    marks = []
    for y in range(rules.high - 1, -1, -1):
        take_row(scan, rules.wide, y, marks)
        if y > 0:
            scan.take("/")
    return marks


def read_line(rules, text):
    scan = Scan(text)
    try:
        marks = take_board(scan, rules)
        scan.take(" ")
        side = scan.take_one_of(SIDE_SIGNS)
        scan.take_end()
    except Stuck:
        raise LineFault(1, scan.place) from None
    for mark in marks:
        if not may_stand(rules.kinds, mark.cell, mark.sign):
            raise LineFault(2, mark.place)
    return position_of(marks, side)
