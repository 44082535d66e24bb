"""Programs written as numbers.

A program is held as a tuple of its steps, a step as (its number, its c, m or k), with 0 where it has none.
"""

from turngroups.reader import Reader

# By a step's number: the letter of the number that stands behind it, or no letter.
STEP_LETTERS = (
    "c",  # add
    "c",  # times
    "m",  # rest
    "",  # abs
    "",  # sort
    "",  # reverse
    "k",  # rotate
    "k",  # take
    "k",  # drop
    "c",  # above
    "",  # once
    "",  # sum
    "",  # greatest
    "",  # least
    "",  # count
    "",  # steps
    "",  # sums
    "",  # twice
)


def taken_amount(reader, letter):
    if letter == "c":
        return reader.taken_between(-99, 99)
    if letter == "m":
        return reader.taken_between(1, 9)
    if letter == "k":
        return reader.taken_between(0, 9)
    return 0


def taken_step(reader):
    kind = reader.taken_between(0, len(STEP_LETTERS) - 1)
    amount = taken_amount(reader, STEP_LETTERS[kind])
    return (kind, amount)


def taken_program(reader):
    count = reader.taken_between(0, 8)
    program = []
    for place in range(count):
        program.append(taken_step(reader))
    return tuple(program)


def whole_program(numbers):
    reader = Reader(numbers)
    program = taken_program(reader)
    reader.must_end()
    return program


def program_numbers(program):
    numbers = [len(program)]
    for kind, amount in program:
        numbers.append(kind)
        if STEP_LETTERS[kind] != "":
            numbers.append(amount)
    return numbers
