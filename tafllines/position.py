"""Positions: who stands where, and whose turn it is."""

from tafllines.cells import HUNTER, KING, MAN, may_stand

# The king's cell when he is taken.
TAKEN = 255


# hunters and men are rising lists of cells; side is 0 when it's the hunters' turn, 1 when it's the king's side's.
class Position:

    def __init__(self, hunters, men, king, side):
        self.hunters = hunters
        self.men = men
        self.king = king
        self.side = side


def cells_with(marks, piece):
    return sorted([mark.cell for mark in marks if mark.sign == piece])


def position_of(marks, side):
    kings = cells_with(marks, KING)
    king = kings[0] if len(kings) > 0 else TAKEN
    return Position(cells_with(marks, HUNTER), cells_with(marks, MAN), king, side)


# Each piece with its cell, as pairs: a dict by cells would hide two pieces on one cell.
def pieces_of(position):
    pieces = [(cell, HUNTER) for cell in position.hunters]
    pieces.extend([(cell, MAN) for cell in position.men])
    if position.king != TAKEN:
        pieces.append((position.king, KING))
    return pieces


def is_right(kinds, position):
    if position.side > 1:
        return False
    held = {}
    for cell, piece in pieces_of(position):
        if cell in held or not may_stand(kinds, cell, piece):
            return False
        held[cell] = True
    return True
