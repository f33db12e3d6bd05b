"""The calls on a hall, and what they answer."""

from tafllines.grammar import rules_of
from tafllines.line import line_of, read_line
from tafllines.position import Position, is_right
from tafllines.refusals import LineFault, RulesFault
from tafllines.rules import start_of

RULES = 0
BEGIN = 1
READ = 2
WRITE = 3

# By a call's number: how many whole numbers it has, and how many rows behind them.
# The calls from 4 on are told here too, since without rules they answer -3 and the next call stands behind them.
NUMBERS_OF_CALLS = (0, 0, 0, 2, 1, 0, 0)
ROWS_OF_CALLS = (1, 0, 1, 2, 1, 1, 2)

NO_RULES = -3
LINE_FAULT = -5
RULES_FAULT = -6
NOT_RIGHT = -8


# Raised for a call that is not built: an answer made up for it would pass for a right one.
class UnknownCall(Exception):
    pass


class Hall:

    def __init__(self):
        self.rules = None


# Reads the list of calls from its beginning on; what it gives out is copied, so that the list stays as it was.
class Feed:

    def __init__(self, calls):
        self.calls = calls
        self.used = 0

    def has_more(self):
        return self.used < len(self.calls)

    def take_number(self):
        number = self.calls[self.used]
        self.used = self.used + 1
        return number

    def take_numbers(self, many):
        numbers = self.calls[self.used:self.used + many]
        self.used = self.used + many
        return numbers

    def take_rows(self, many):
        rows = []
        while len(rows) < many:
            length = self.take_number()
            rows.append(self.take_numbers(length))
        return rows


def with_length(row):
    return [len(row)] + row


def answer_rules(hall, text):
    try:
        rules = rules_of(text)
    except RulesFault as fault:
        return [RULES_FAULT, fault.kind, fault.place]
    hall.rules = rules
    return [0]


def answer_begin(rules):
    return [0] + with_length(line_of(rules, start_of(rules)))


def answer_read(rules, text):
    try:
        position = read_line(rules, text)
    except LineFault as fault:
        return [LINE_FAULT, fault.kind, fault.place]
    return [0] + with_length(position.hunters) + with_length(position.men) + [position.king, position.side]


def is_rising(cells):
    for index in range(1, len(cells)):
        if cells[index - 1] >= cells[index]:
            return False
    return True


def answer_write(rules, position):
    if not is_rising(position.hunters) or not is_rising(position.men):
        return [NOT_RIGHT]
    if not is_right(rules.kinds, position):
        return [NOT_RIGHT]
    return [0] + with_length(line_of(rules, position))


def answer_call(hall, call, numbers, rows):
    if call == RULES:
        return answer_rules(hall, rows[0])
    if hall.rules is None:
        return [NO_RULES]
    if call == BEGIN:
        return answer_begin(hall.rules)
    if call == READ:
        return answer_read(hall.rules, rows[0])
    if call == WRITE:
        return answer_write(hall.rules, Position(rows[0], rows[1], numbers[0], numbers[1]))
    raise UnknownCall()


def answers(calls):
    hall = Hall()
    feed = Feed(calls)
    told = []
    while feed.has_more():
        call = feed.take_number()
        numbers = feed.take_numbers(NUMBERS_OF_CALLS[call])
        rows = feed.take_rows(ROWS_OF_CALLS[call])
        told.extend(with_length(answer_call(hall, call, numbers, rows)))
    return told
