"""The reading of a rules' text by its grammar."""

from tafllines.cells import GROUND_SIGNS, PIECE_SIGNS, Mark, cell_number
from tafllines.refusals import RulesFault
from tafllines.rules import Rules, faults_of
from tafllines.scan import Scan, Stuck, digit_value

LEAST_SIZE = 5
MOST_SIZE = 13
MOST_LIMIT = 60000
LONGEST_NAME = 16

# In each of these a word's index is the number that the rules have for it.
FIRST_WORDS = ("hunters", "king")
GAIT_WORDS = ("steps", "slides")
ARMS_WORDS = ("bare", "armed")
TAKERS_WORDS = ("two", "four")
WAY_WORDS = ("barred", "passed")
ENMITY_WORDS = ("quiet", "hunters", "men", "all")
GOAL_WORDS = ("edge", "exits")
THRICE_WORDS = ("drawn", "hunters", "king")


def is_letter(sign):
    return (ord("A") <= sign and sign <= ord("Z")) or (ord("a") <= sign and sign <= ord("z"))


# What a hall is called matters to none of the calls, so the name is not kept.
def take_name(scan):
    if not is_letter(scan.ahead()):
        raise Stuck()
    length = 0
    while length < LONGEST_NAME and (is_letter(scan.ahead()) or digit_value(scan.ahead()) >= 0):
        scan.go_on()
        length = length + 1


def take_rows(scan, rules, signs):
    marks = []
    for y in range(rules.high - 1, -1, -1):
        for x in range(rules.wide):
            place = scan.place
            marks.append(Mark(place, cell_number(x, y), scan.take_one_of(signs)))
        scan.take("\n")
    return marks


def take_grounds(scan, rules):
    scan.take("tafl ")
    take_name(scan)
    scan.take(" ")
    rules.wide = scan.take_number(LEAST_SIZE, MOST_SIZE)
    scan.take(" ")
    rules.high = scan.take_number(LEAST_SIZE, MOST_SIZE)
    scan.take("\nground\n")
    rules.ground = take_rows(scan, rules, GROUND_SIGNS)
    scan.take("start\n")
    rules.start = take_rows(scan, rules, PIECE_SIGNS)


def take_pieces_ways(scan, rules):
    scan.take("first ")
    rules.first = scan.take_one_of(FIRST_WORDS)
    scan.take("\nking ")
    rules.slides = scan.take_one_of(GAIT_WORDS)
    scan.take(" ")
    rules.armed = scan.take_one_of(ARMS_WORDS)
    scan.take(" ")
    rules.four = scan.take_one_of(TAKERS_WORDS)
    scan.take("\n")


def take_cells_ways(scan, rules):
    scan.take("seat ")
    rules.passed = scan.take_one_of(WAY_WORDS)
    scan.take(" ")
    rules.seat = scan.take_one_of(ENMITY_WORDS)
    scan.take("\nexits ")
    rules.exits = scan.take_one_of(ENMITY_WORDS)
    scan.take("\n")


def take_ends(scan, rules):
    scan.take("goal ")
    rules.goal_place = scan.place
    rules.goal = scan.take_one_of(GOAL_WORDS)
    scan.take("\nthrice ")
    rules.thrice = scan.take_one_of(THRICE_WORDS)
    scan.take("\nlimit ")
    rules.limit = scan.take_number(1, MOST_LIMIT)
    scan.take("\n")
    scan.take_end()


def rules_of(text):
    scan = Scan(text)
    rules = Rules()
    try:
        take_grounds(scan, rules)
        take_pieces_ways(scan, rules)
        take_cells_ways(scan, rules)
        take_ends(scan, rules)
    except Stuck:
        raise RulesFault(1, scan.place) from None
    rules.length = len(text)
    rules.kinds = dict([(mark.cell, mark.sign) for mark in rules.ground])
    faults = faults_of(rules)
    if len(faults) > 0:
        fault = min(faults)
        raise RulesFault(fault[1], fault[0])
    return rules
