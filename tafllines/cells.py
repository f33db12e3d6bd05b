"""Cells, what they are on a ground, and which piece may stand where."""

# Cells are numbered as on the widest ground, however wide the ground is.
ROW_STEP = 13

# What a ground's sign says is its index here.
GROUND_SIGNS = (".", "S", "X", "#")
PLAIN = 0
SEAT = 1
EXIT = 2
WALL = 3

# What a start's sign says is its index here.
PIECE_SIGNS = (".", "h", "m", "K")
NOBODY = 0
HUNTER = 1
MAN = 2
KING = 3


def cell_number(x, y):
    return ROW_STEP * y + x


# A sign of a text that speaks of a cell; the place is kept because a fault is told by it.
class Mark:

    def __init__(self, place, cell, sign):
        self.place = place
        self.cell = cell
        self.sign = sign


# kinds tells for each cell of the ground what it is; a cell that isn't in it is none of the ground's.
def may_stand(kinds, cell, piece):
    if cell not in kinds:
        return False
    if kinds[cell] == PLAIN:
        return True
    return piece == KING and kinds[cell] != WALL
