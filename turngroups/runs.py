"""Runs of programs on rows.

A row is a tuple of whole numbers. Each do_.. does one step on a row and gives back what comes of it. All of them take
the step's c, m or k, also where it has none, so that every step is done in the same way.
"""

MOST_COUNT = 40
MOST_NUMBER = 1000000


def do_add(row, amount):
    return tuple([number + amount for number in row])


def do_times(row, amount):
    return tuple([number * amount for number in row])


def do_rest(row, amount):
    return tuple([number % amount for number in row])


def do_abs(row, amount):
    return tuple([abs(number) for number in row])


def do_sort(row, amount):
    return tuple(sorted(row))


def do_reverse(row, amount):
    return row[::-1]


def do_rotate(row, amount):
    if len(row) == 0:
        return row
    moved = amount % len(row)
    return row[moved:] + row[:moved]


def do_take(row, amount):
    return row[:amount]


def do_drop(row, amount):
    return row[amount:]


def do_above(row, amount):
    return tuple([number for number in row if number > amount])


def do_once(row, amount):
    # A dict keeps the order in which its keys came.
    seen = {}
    for number in row:
        seen[number] = True
    return tuple(list(seen))


def do_sum(row, amount):
    return (sum(row),)


def do_greatest(row, amount):
    return (max(row),) if len(row) > 0 else ()


def do_least(row, amount):
    return (min(row),) if len(row) > 0 else ()


def do_count(row, amount):
    return (len(row),)


def do_steps(row, amount):
    return tuple([later - earlier for earlier, later in zip(row, row[1:])])


def do_sums(row, amount):
    total = 0
    totals = []
    for number in row:
        total = total + number
        totals.append(total)
    return tuple(totals)


def do_twice(row, amount):
    return row + row


# By a step's number.
DOINGS = (
    do_add,
    do_times,
    do_rest,
    do_abs,
    do_sort,
    do_reverse,
    do_rotate,
    do_take,
    do_drop,
    do_above,
    do_once,
    do_sum,
    do_greatest,
    do_least,
    do_count,
    do_steps,
    do_sums,
    do_twice,
)


def is_beyond(row):
    return len(row) > MOST_COUNT or any([abs(number) > MOST_NUMBER for number in row])


# What comes of the last step; None, if what comes of a step is beyond. So the outcome of one program and another one
# behind it is that of all their steps as one program.
def outcome_of(program, row):
    for kind, amount in program:
        do_step = DOINGS[kind]
        row = do_step(row, amount)
        if is_beyond(row):
            return None
    return row
