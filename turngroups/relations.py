"""Relations: written as numbers, chained, and looked at on a row."""

from turngroups.reader import Reader
from turngroups.runs import outcome_of
from turngroups.steps import program_numbers, taken_program

ANY = 0
HAS_COUNT = 5
EQUAL = 0

KEPT = 0
BROKEN = 1
OFF = 2


class Relation:
    def __init__(self, condition, least_count, input_turning, stand, output_turning):
        self.condition = condition
        # The condition's k; 0 where it has none.
        self.least_count = least_count
        self.input_turning = input_turning
        self.stand = stand
        self.output_turning = output_turning


# The conditions: all of them take k, also where they have none, so that every one is asked in the same way.
def is_any(row, least_count):
    return True


def has_numbers(row, least_count):
    return len(row) > 0


def is_rising(row, least_count):
    return all([earlier <= later for earlier, later in zip(row, row[1:])])


def has_none_below_zero(row, least_count):
    return all([number >= 0 for number in row])


def has_none_twice(row, least_count):
    return len(set(row)) == len(row)


def has_count(row, least_count):
    return len(row) >= least_count


# By a condition's number.
CONDITIONS = (is_any, has_numbers, is_rising, has_none_below_zero, has_none_twice, has_count)


# How two rows stand, the left one to the right one.
def stand_equal(left, right):
    return left == right


def stand_bag(left, right):
    return sorted(left) == sorted(right)


def stand_numbers(left, right):
    return set(left) == set(right)


def stand_most(left, right):
    return len(left) == len(right) and all([low <= high for low, high in zip(left, right)])


def stand_least(left, right):
    return stand_most(right, left)


def stand_begins(left, right):
    return right[:len(left)] == left


def stand_long(left, right):
    return len(left) == len(right)


# By the number of how outputs stand.
STANDS = (stand_equal, stand_bag, stand_numbers, stand_most, stand_least, stand_begins, stand_long)


def whole_relation(numbers):
    reader = Reader(numbers)
    condition = reader.taken_between(0, len(CONDITIONS) - 1)
    least_count = reader.taken_between(0, 9) if condition == HAS_COUNT else 0
    input_turning = taken_program(reader)
    stand = reader.taken_between(0, len(STANDS) - 1)
    output_turning = taken_program(reader)
    reader.must_end()
    return Relation(condition, least_count, input_turning, stand, output_turning)


def relation_numbers(relation):
    numbers = [relation.condition]
    if relation.condition == HAS_COUNT:
        numbers.append(relation.least_count)
    numbers.extend(program_numbers(relation.input_turning))
    numbers.append(relation.stand)
    numbers.extend(program_numbers(relation.output_turning))
    return numbers


def are_chained(first, second):
    stand_so = first.stand == EQUAL and second.stand == EQUAL
    return stand_so and first.output_turning == second.input_turning and second.condition == ANY


def chained(first, second):
    return Relation(first.condition, first.least_count, first.input_turning, EQUAL, second.output_turning)


# KEPT, BROKEN or OFF: what the relation is for the program at this row.
def state_at(relation, program, row):
    is_so = CONDITIONS[relation.condition]
    if not is_so(row, relation.least_count):
        return OFF
    left = outcome_of(relation.input_turning + program, row)
    right = outcome_of(program + relation.output_turning, row)
    if left is None or right is None:
        return OFF
    stand_so = STANDS[relation.stand]
    return KEPT if stand_so(left, right) else BROKEN
