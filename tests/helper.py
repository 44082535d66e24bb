"""What the tests share: calls written as numbers, their answers split up, and the words told in another way."""

from collections import Counter
from itertools import accumulate, permutations, product

from turngroups.programs import answers

MOST = 10 ** 18


def size(n, h):
    return [0, n, h]


def program(which, numbers):
    return [1, which, len(numbers)] + list(numbers)


def turn(number):
    return [2, number]


def compose(number, other):
    return [3, number, other]


def back(number):
    return [4, number]


def generated(numbers):
    return [5, len(numbers)] + list(numbers)


def orbit(numbers, row):
    return [6, len(numbers)] + list(numbers) + [len(row)] + list(row)


def orbits(numbers):
    return [7, len(numbers)] + list(numbers)


def alike(number):
    return [8, number]


def group():
    return [9]


def partner(number):
    return [10, number]


def chain(numbers, other):
    return [11, len(numbers)] + list(numbers) + [len(other)] + list(other)


def kept(which, numbers):
    return [12, which, len(numbers)] + list(numbers)


def relation(condition=(0,), before=(0,), stand=0, behind=(0,)):
    """A relation as numbers, of a condition, a program, how outputs stand, and a program as numbers."""
    return list(condition) + list(before) + [stand] + list(behind)


def split(given):
    """The answers, call by call; each number must be an int and no bool."""
    for number in given:
        if type(number) is not int:
            raise AssertionError(f"{number!r} is not a whole number")
    parts = []
    position = 0
    while position < len(given):
        count = given[position]
        part = given[position + 1:position + 1 + count]
        if count < 0 or len(part) != count:
            raise AssertionError(f"a count is wrong in {given!r}")
        parts.append(part)
        position += 1 + count
    return parts


def ask(*calls):
    """The answers of up to 15 calls on one new object."""
    line = []
    for call in calls:
        line.extend(call)
    parts = split(answers(line))
    if len(parts) != len(calls):
        raise AssertionError(f"{len(calls)} calls, {len(parts)} answers")
    return parts


def ask_sized(n, calls, h=0):
    """The answers of any number of calls, each after size (n, h), 14 at a time."""
    parts = []
    for start in range(0, len(calls), 14):
        parts.extend(ask(size(n, h), *calls[start:start + 14])[1:])
    return parts


def all_turns(n):
    """All turns of n places in the document's order, as (from which places, signs)."""
    return [(sources, signs) for sources in permutations(range(n)) for signs in product((0, 1), repeat=n)]


def do_turn(told, row):
    sources, signs = told
    return tuple(-row[source] if sign else row[source] for source, sign in zip(sources, signs))


def turn_by_effect(n):
    """What each turn makes of a row whose numbers all differ, signs too: this tells which turn it is."""
    return {do_turn(told, plain_row(n)): number for number, told in enumerate(all_turns(n))}


def plain_row(n):
    return tuple(range(11, 11 + n))


def group_of(n, numbers):
    """The numbers of the group's turns: products of all members with all generators, until nothing is new."""
    told = all_turns(n)
    effects = {plain_row(n)}
    while True:
        more = {do_turn(told[number], effect) for number in numbers for effect in effects} | effects
        if more == effects:
            by_effect = turn_by_effect(n)
            return sorted(by_effect[effect] for effect in effects)
        effects = more


def all_rows(n, h):
    return list(product(range(-h, h + 1), repeat=n))


# The steps with a number behind them.
WITH_NUMBER = (0, 1, 2, 6, 7, 8, 9)


def steps_of(numbers):
    """The steps of a program as numbers, each as (its number, its c, m or k or None)."""
    steps = []
    rest = list(numbers[1:])
    while rest:
        kind = rest.pop(0)
        steps.append((kind, rest.pop(0) if kind in WITH_NUMBER else None))
    if len(steps) != numbers[0]:
        raise AssertionError(f"{numbers!r} is no program")
    return steps


def do_step(kind, amount, row):
    row = list(row)
    if kind in (0, 1, 2, 3):
        change = (lambda x: x + amount, lambda x: x * amount, lambda x: x - x // amount * amount, lambda x: max(x, -x))
        return list(map(change[kind], row))
    if kind == 4:
        return sorted(row)
    if kind == 5:
        return list(reversed(row))
    if kind == 6:
        for _ in range(amount % len(row) if row else 0):
            row.append(row.pop(0))
        return row
    if kind == 7:
        return [x for place, x in enumerate(row) if place < amount]
    if kind == 8:
        return [x for place, x in enumerate(row) if place >= amount]
    if kind == 9:
        return list(filter(lambda x: x > amount, row))
    if kind == 10:
        return [x for place, x in enumerate(row) if x not in row[:place]]
    if kind == 11:
        return [sum(row)]
    if kind == 12:
        return sorted(row)[-1:]
    if kind == 13:
        return sorted(row)[:1]
    if kind == 14:
        return [len(row)]
    if kind == 15:
        return [row[place] - row[place - 1] for place in range(1, len(row))]
    if kind == 16:
        return list(accumulate(row))
    return row * 2


def run(numbers, row):
    """The outcome of a program as numbers, or None; of no outcome there's none."""
    if row is None:
        return None
    for kind, amount in steps_of(numbers):
        row = do_step(kind, amount, row)
        if len(row) > 40 or (row and (max(row) > 1000000 or min(row) < -1000000)):
            return None
    return tuple(row)


def is_so(condition, row):
    """A condition is its number, or 5 and k."""
    return (
        lambda: True,
        lambda: row != (),
        lambda: list(row) == sorted(row),
        lambda: not any(x < 0 for x in row),
        lambda: not any(often > 1 for often in Counter(row).values()),
        lambda: len(row) >= condition[1],
    )[condition[0]]()


def do_stand(stand, first, second):
    return (
        lambda: first == second,
        lambda: Counter(first) == Counter(second),
        lambda: all(x in second for x in first) and all(x in first for x in second),
        lambda: len(first) == len(second) and not any(x > y for x, y in zip(first, second)),
        lambda: len(first) == len(second) and not any(x < y for x, y in zip(first, second)),
        lambda: len(first) <= len(second) and all(x == y for x, y in zip(first, second)),
        lambda: len(first) == len(second),
    )[stand]()


def count_kept(programs, rows, condition=(0,), before=(0,), stand=0, behind=(0,)):
    """At how many rows the relation is kept, broken, off, for programs that are done one behind the other."""
    def made(row):
        for numbers in programs:
            row = run(numbers, row)
        return row

    counts = [0, 0, 0]
    for row in rows:
        left = made(run(before, row))
        right = run(behind, made(row))
        if not is_so(condition, row) or left is None or right is None:
            counts[2] += 1
        else:
            counts[0 if do_stand(stand, left, right) else 1] += 1
    return counts
