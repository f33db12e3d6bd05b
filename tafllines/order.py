"""The order of positions, the least of a position, and which positions are alike."""

from tafllines.turns import fitting_turns, turned


# Of two sets of cells, that one is more as a number which has the highest cell that only one of them has.
# Lists with the highest cell first are in this same order, so that no such number need be made.
def highest_first(cells):
    return sorted(cells, reverse=True)


# Positions are in the order of their ranks, and are the same just if these are.
def rank(position):
    return (highest_first(position.hunters), highest_first(position.men), position.king, position.side)


# Turn 0 fits every ground; a later turn must make a lesser position, not the same one, to be taken in its place.
def least_turn(rules, position):
    best = 0
    best_rank = rank(position)
    for turn in fitting_turns(rules):
        turned_rank = rank(turned(rules, position, turn))
        if turned_rank < best_rank:
            best = turn
            best_rank = turned_rank
    return best


def are_alike(rules, position, other):
    other_rank = rank(other)
    for turn in fitting_turns(rules):
        if rank(turned(rules, position, turn)) == other_rank:
            return True
    return False
