"""The turns of a ground: which of them fit it, and where they bring a position's pieces."""

from tafllines.cells import ROW_STEP, cell_number
from tafllines.position import TAKEN, Position

TURNS = 8

# The turns below this are so many quarter turns; the others are these once more, but with a mirroring ahead.
QUARTERS = 4


# How wide the ground is changes with each quarter turn, if it isn't as wide as high.
def turned_cell(rules, cell, turn):
    x = cell % ROW_STEP
    y = cell // ROW_STEP
    wide = rules.wide
    high = rules.high
    if turn >= QUARTERS:
        x = wide - 1 - x
    for quarter in range(turn % QUARTERS):
        mirrored_x = wide - 1 - x
        x = y
        y = mirrored_x
        other_side = wide
        wide = high
        high = other_side
    return cell_number(x, y)


def keeps_size(rules, turn):
    return rules.wide == rules.high or turn % 2 == 0


def fits(rules, turn):
    if not keeps_size(rules, turn):
        return False
    for cell in rules.kinds:
        if rules.kinds[cell] != rules.kinds[turned_cell(rules, cell, turn)]:
            return False
    return True


def fitting_turns(rules):
    return [turn for turn in range(TURNS) if fits(rules, turn)]


def turned_cells(rules, cells, turn):
    return sorted([turned_cell(rules, cell, turn) for cell in cells])


def turned(rules, position, turn):
    hunters = turned_cells(rules, position.hunters, turn)
    men = turned_cells(rules, position.men, turn)
    king = position.king
    if king != TAKEN:
        king = turned_cell(rules, king, turn)
    return Position(hunters, men, king, position.side)
