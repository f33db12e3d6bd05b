"""The calls on a hall, and what they answer."""

from tafllines.grammar import rules_of
from tafllines.line import line_of, read_line
from tafllines.order import are_alike, least_turn
from tafllines.position import Position, is_right
from tafllines.refusals import LineFault, RulesFault
from tafllines.rules import start_of
from tafllines.turns import fitting_turns, turned

RULES = 0
BEGIN = 1
READ = 2
WRITE = 3
TURN = 4
LEAST = 5

# By a call's number: how many whole numbers it has, and how many rows behind them.
NUMBERS_OF_CALLS = (0, 0, 0, 2, 1, 0, 0)
ROWS_OF_CALLS = (1, 0, 1, 2, 1, 1, 2)

NO_FITTING_TURN = -2
NO_RULES = -3
LINE_FAULT = -5
RULES_FAULT = -6
NOT_RIGHT = -8


class Hall:

    def __init__(self):
        self.rules = None


# Reads the list of calls from its beginning on; what it gives out is copied, so that the list stays as it was.
class Feed:

    def __init__(self, calls):
        self.calls = calls
        self.used = 0

    def has_more(self):
        return self.used < len(self.calls)

    def take_number(self):
        number = self.calls[self.used]
        self.used = self.used + 1
        return number

    def take_numbers(self, many):
        numbers = self.calls[self.used:self.used + many]
        self.used = self.used + many
        return numbers

    def take_rows(self, many):
        rows = []
        while len(rows) < many:
            length = self.take_number()
            rows.append(self.take_numbers(length))
        return rows


def with_length(row):
    return [len(row)] + row


def answer_rules(hall, text):
    try:
        rules = rules_of(text)
    except RulesFault as fault:
        return [RULES_FAULT, fault.kind, fault.place]
    hall.rules = rules
    return [0]


def answer_begin(rules):
    return [0] + with_length(line_of(rules, start_of(rules)))


def answer_read(rules, text):
    position = read_line(rules, text)
    return [0] + with_length(position.hunters) + with_length(position.men) + [position.king, position.side]


def is_rising(cells):
    for index in range(1, len(cells)):
        if cells[index - 1] >= cells[index]:
            return False
    return True


def answer_write(rules, position):
    if not is_rising(position.hunters) or not is_rising(position.men):
        return [NOT_RIGHT]
    if not is_right(rules.kinds, position):
        return [NOT_RIGHT]
    return [0] + with_length(line_of(rules, position))


# A line's fault is told before that of a turn, so the line is read first.
def answer_turn(rules, text, turn):
    position = read_line(rules, text)
    if turn not in fitting_turns(rules):
        return [NO_FITTING_TURN]
    return [0] + with_length(line_of(rules, turned(rules, position, turn)))


def answer_least(rules, text):
    position = read_line(rules, text)
    turn = least_turn(rules, position)
    return [0, turn] + with_length(line_of(rules, turned(rules, position, turn)))


def answer_alike(rules, text, other_text):
    position = read_line(rules, text)
    other = read_line(rules, other_text)
    return [1 if are_alike(rules, position, other) else 0]


def answer_by_rules(rules, call, numbers, rows):
    if call == BEGIN:
        return answer_begin(rules)
    if call == READ:
        return answer_read(rules, rows[0])
    if call == WRITE:
        return answer_write(rules, Position(rows[0], rows[1], numbers[0], numbers[1]))
    if call == TURN:
        return answer_turn(rules, rows[0], numbers[0])
    if call == LEAST:
        return answer_least(rules, rows[0])
    return answer_alike(rules, rows[0], rows[1])


# Every call that reads a line tells a line's fault in the same way.
def answer_call(hall, call, numbers, rows):
    if call == RULES:
        return answer_rules(hall, rows[0])
    if hall.rules is None:
        return [NO_RULES]
    try:
        return answer_by_rules(hall.rules, call, numbers, rows)
    except LineFault as fault:
        return [LINE_FAULT, fault.kind, fault.place]


def answers(calls):
    hall = Hall()
    feed = Feed(calls)
    told = []
    while feed.has_more():
        call = feed.take_number()
        numbers = feed.take_numbers(NUMBERS_OF_CALLS[call])
        rows = feed.take_rows(ROWS_OF_CALLS[call])
        told.extend(with_length(answer_call(hall, call, numbers, rows)))
    return told
