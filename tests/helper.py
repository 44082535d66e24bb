"""What the tests share: calls written as numbers, their answers split up, and turns told in another way."""

from itertools import permutations, product

from turngroups.programs import answers

MOST = 10 ** 18


def size(n, h):
    return [0, n, h]


def program(which, numbers):
    return [1, which, len(numbers)] + list(numbers)


def turn(number):
    return [2, number]


def compose(number, other):
    return [3, number, other]


def back(number):
    return [4, number]


def generated(numbers):
    return [5, len(numbers)] + list(numbers)


def orbit(numbers, row):
    return [6, len(numbers)] + list(numbers) + [len(row)] + list(row)


def split(given):
    """The answers, call by call; each number must be an int and no bool."""
    for number in given:
        if type(number) is not int:
            raise AssertionError(f"{number!r} is not a whole number")
    parts = []
    position = 0
    while position < len(given):
        count = given[position]
        part = given[position + 1:position + 1 + count]
        if count < 0 or len(part) != count:
            raise AssertionError(f"a count is wrong in {given!r}")
        parts.append(part)
        position += 1 + count
    return parts


def ask(*calls):
    """The answers of up to 15 calls on one new object."""
    line = []
    for call in calls:
        line.extend(call)
    parts = split(answers(line))
    if len(parts) != len(calls):
        raise AssertionError(f"{len(calls)} calls, {len(parts)} answers")
    return parts


def ask_sized(n, calls, h=0):
    """The answers of any number of calls, each after size (n, h), 14 at a time."""
    parts = []
    for start in range(0, len(calls), 14):
        parts.extend(ask(size(n, h), *calls[start:start + 14])[1:])
    return parts


def all_turns(n):
    """All turns of n places in the document's order, as (from which places, signs)."""
    return [(sources, signs) for sources in permutations(range(n)) for signs in product((0, 1), repeat=n)]


def do_turn(told, row):
    sources, signs = told
    return tuple(-row[source] if sign else row[source] for source, sign in zip(sources, signs))


def turn_by_effect(n):
    """What each turn makes of a row whose numbers all differ, signs too: this tells which turn it is."""
    return {do_turn(told, plain_row(n)): number for number, told in enumerate(all_turns(n))}


def plain_row(n):
    return tuple(range(11, 11 + n))


def group_of(n, numbers):
    """The numbers of the group's turns: products of all members with all generators, until nothing is new."""
    told = all_turns(n)
    effects = {plain_row(n)}
    while True:
        more = {do_turn(told[number], effect) for number in numbers for effect in effects} | effects
        if more == effects:
            by_effect = turn_by_effect(n)
            return sorted(by_effect[effect] for effect in effects)
        effects = more
