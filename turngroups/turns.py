"""Turns of rows.

A turn of n places is held as the row that it makes of 1, 2, .. n: at each place stands from which place its number
comes, counted from 1, and below 0 if it comes with the other sign. So turning a held turn tells the turn that is
first the held one, then the turning one.
"""


def turn_count(places):
    count = 1
    for place in range(places):
        count = count * 2 * (place + 1)
    return count


def is_turn(places, number):
    return 0 <= number < turn_count(places)


def idle_turn(places):
    return tuple(range(1, places + 1))


def turned(turn, row):
    return tuple([row[come - 1] if come > 0 else -row[-come - 1] for come in turn])


def undone(turn):
    comes = list(turn)
    for place, come in enumerate(turn):
        comes[abs(come) - 1] = place + 1 if come > 0 else -place - 1
    return tuple(comes)


def sources_of(turn):
    return [abs(come) - 1 for come in turn]


def signs_of(turn):
    return [1 if come < 0 else 0 for come in turn]


def number_of(turn):
    # Among turns alike so far, each place that's still left to come from is ahead of the later ones.
    left = list(range(len(turn)))
    number = 0
    for source in sources_of(turn):
        number = number * len(left) + left.index(source)
        left.remove(source)
    for sign in signs_of(turn):
        number = number * 2 + sign
    return number


def sources_ranked(places, rank):
    choices = []
    for left_over in range(1, places + 1):
        choices.insert(0, rank % left_over)
        rank = rank // left_over
    left = list(range(places))
    sources = []
    for choice in choices:
        sources.append(left.pop(choice))
    return sources


def turn_of(places, number):
    signs = []
    rank = number
    for place in range(places):
        signs.insert(0, rank % 2)
        rank = rank // 2
    sources = sources_ranked(places, rank)
    return tuple([-source - 1 if sign == 1 else source + 1 for source, sign in zip(sources, signs)])


# All rows to which a row is turned by the group that the turns generate. A turn done often enough changes nothing,
# so what undoes it is reached by going on with it.
def reached(turns, row):
    found = [row]
    seen = {row: True}
    looked = 0
    while looked < len(found):
        for turn in turns:
            other = turned(turn, found[looked])
            if other not in seen:
                seen[other] = True
                found.append(other)
        looked = looked + 1
    return found


# How many orbits the rows have by the group that the turns generate.
def orbit_count(turns, rows):
    count = 0
    seen = {}
    for row in rows:
        if row not in seen:
            count = count + 1
            for member in reached(turns, row):
                seen[member] = True
    return count
