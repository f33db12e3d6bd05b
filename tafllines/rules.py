"""What a rules' text says, and the faults of a text that keeps to the grammar."""

from tafllines.cells import EXIT, HUNTER, KING, NOBODY, ROW_STEP, SEAT, may_stand
from tafllines.position import position_of

QUIET = 0
PASSED = 1
EXITS = 1


# Its values are filled in by the reading of a text, and not changed after that.
class Rules:

    def __init__(self):
        self.wide = 0
        self.high = 0
        self.ground = []
        self.start = []
        self.kinds = {}
        self.first = 0
        self.slides = 0
        self.armed = 0
        self.four = 0
        self.passed = 0
        self.seat = 0
        self.exits = 0
        self.goal = 0
        self.goal_place = 0
        self.thrice = 0
        self.limit = 0
        self.length = 0


def start_of(rules):
    return position_of(rules.start, rules.first)


def marks_with(marks, sign):
    return [mark for mark in marks if mark.sign == sign]


def is_on_edge(rules, cell):
    x = cell % ROW_STEP
    y = cell // ROW_STEP
    return x == 0 or y == 0 or x == rules.wide - 1 or y == rules.high - 1


# Narrower than in a later position: at first the king isn't on an exit either.
def may_begin(rules, mark):
    if mark.sign == NOBODY:
        return True
    if mark.sign == KING and rules.kinds[mark.cell] == EXIT:
        return False
    return may_stand(rules.kinds, mark.cell, mark.sign)


def is_goal_amiss(rules):
    if rules.goal == EXITS:
        return len(marks_with(rules.ground, EXIT)) == 0
    kings = marks_with(rules.start, KING)
    return len(kings) > 0 and is_on_edge(rules, kings[0].cell)


def is_something_missing(rules):
    if len(marks_with(rules.start, KING)) == 0 or len(marks_with(rules.start, HUNTER)) == 0:
        return True
    needs_seat = rules.passed != PASSED or rules.seat != QUIET
    return needs_seat and len(marks_with(rules.ground, SEAT)) == 0


# Pairs of place and kind, so that the least pair is the fault that counts.
def faults_of(rules):
    faults = [(mark.place, 2) for mark in marks_with(rules.ground, SEAT)[1:]]
    faults.extend([(mark.place, 3) for mark in rules.start if not may_begin(rules, mark)])
    faults.extend([(mark.place, 4) for mark in marks_with(rules.start, KING)[1:]])
    if is_goal_amiss(rules):
        faults.append((rules.goal_place, 5))
    if is_something_missing(rules):
        faults.append((rules.length, 6))
    return faults
