"""What turns do to a program's outcomes.

Outcomes are held as a dict: for each row of a size, in the rows' order, the row's outcome, or None if there's none.
Each turn of a size's row is a row of the size again, so its outcome is there.
"""

from turngroups.runs import outcome_of
from turngroups.turns import turn_count, turn_of, turned

MOST_PLACES = 4


def outcomes_at(program, rows):
    outcomes = {}
    for row in rows:
        outcomes[row] = outcome_of(program, row)
    return outcomes


# The number of the first row at which the turn doesn't leave the outcome alike; None, if it does at all of them.
def first_unlike(turn, outcomes):
    for number, row in enumerate(outcomes):
        if outcomes[turned(turn, row)] != outcomes[row]:
            return number
    return None


# The length of all outcomes; None, if there's one missing, or they differ in length, or are too long to be turned.
def common_length(outcomes):
    there = [outcome for outcome in outcomes.values() if outcome is not None]
    if len(there) < len(outcomes):
        return None
    length = len(there[0])
    if length > MOST_PLACES or any([len(outcome) != length for outcome in there]):
        return None
    return length


def goes_with(turn, pairs):
    for outcome, outcome_behind_turn in pairs:
        if turned(turn, outcome) != outcome_behind_turn:
            return False
    return True


# The number of the first turn of so many places that goes with the turn; None, if there's none.
def first_partner(turn, outcomes, places):
    pairs = [(outcomes[row], outcomes[turned(turn, row)]) for row in outcomes]
    for number in range(turn_count(places)):
        if goes_with(turn_of(places, number), pairs):
            return number
    return None
