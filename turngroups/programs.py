"""The calls, and their answers.

Each answer_.. takes what its call hands over from the reader, and gives back what is answered, number by number; a
refusal is its number alone.
"""

from turngroups.likeness import common_length, first_partner, first_unlike, outcomes_at
from turngroups.reader import NotWhole, Reader
from turngroups.relations import are_chained, chained, relation_numbers, state_at, whole_relation
from turngroups.rows import row_count, rows_of_size, whole_row
from turngroups.setting import Setting
from turngroups.steps import whole_program
from turngroups.turns import idle_turn, is_turn, number_of, orbit_count, reached, signs_of, sources_of
from turngroups.turns import turn_count, turn_of, turned, undone


def are_turns(setting, numbers):
    return all([is_turn(setting.places, number) for number in numbers])


def turns_of(setting, numbers):
    return [turn_of(setting.places, number) for number in numbers]


def size_rows(setting):
    return rows_of_size(setting.places, setting.height)


def first_outcomes(setting):
    return outcomes_at(setting.programs[0], size_rows(setting))


def answer_size(setting, reader):
    places = reader.taken()
    height = reader.taken()
    if places < 0 or places > 4 or height < 0 or height > 9:
        return [-1]
    rows = row_count(places, height)
    if rows > 130:
        return [-7]
    setting.places = places
    setting.height = height
    return [rows, turn_count(places)]


def answer_program(setting, reader):
    which = reader.taken()
    numbers = reader.taken_counted()
    try:
        program = whole_program(numbers)
    except NotWhole:
        return [-1]
    if which != 0 and which != 1:
        return [-2]
    setting.programs[which] = program
    return [len(program)]


def answer_turn(setting, reader):
    number = reader.taken()
    if not is_turn(setting.places, number):
        return [-2]
    turn = turn_of(setting.places, number)
    return sources_of(turn) + signs_of(turn)


def answer_compose(setting, reader):
    later = reader.taken()
    earlier = reader.taken()
    if not are_turns(setting, [later, earlier]):
        return [-2]
    return [number_of(turned(turn_of(setting.places, later), turn_of(setting.places, earlier)))]


def answer_back(setting, reader):
    number = reader.taken()
    if not is_turn(setting.places, number):
        return [-2]
    return [number_of(undone(turn_of(setting.places, number)))]


def answer_generated(setting, reader):
    numbers = reader.taken_counted()
    if not are_turns(setting, numbers):
        return [-2]
    group = reached(turns_of(setting, numbers), idle_turn(setting.places))
    return [len(group)] + sorted([number_of(turn) for turn in group])


def answer_orbit(setting, reader):
    numbers = reader.taken_counted()
    row_numbers = reader.taken_counted()
    try:
        row = whole_row(row_numbers, setting.places)
    except NotWhole:
        return [-5]
    if not are_turns(setting, numbers):
        return [-2]
    orbit = sorted(reached(turns_of(setting, numbers), row))
    answer = [len(orbit)]
    for member in orbit:
        answer.extend(member)
    return answer


def answer_orbits(setting, reader):
    numbers = reader.taken_counted()
    if not are_turns(setting, numbers):
        return [-2]
    return [orbit_count(turns_of(setting, numbers), size_rows(setting))]


def answer_alike(setting, reader):
    number = reader.taken()
    if not is_turn(setting.places, number):
        return [-2]
    unlike = first_unlike(turn_of(setting.places, number), first_outcomes(setting))
    return [1] if unlike is None else [0, unlike]


def answer_group(setting, reader):
    outcomes = first_outcomes(setting)
    group = []
    for number in range(turn_count(setting.places)):
        if first_unlike(turn_of(setting.places, number), outcomes) is None:
            group.append(number)
    return [len(group)] + group


def answer_partner(setting, reader):
    number = reader.taken()
    if not is_turn(setting.places, number):
        return [-2]
    outcomes = first_outcomes(setting)
    length = common_length(outcomes)
    if length is None:
        return [0]
    partner = first_partner(turn_of(setting.places, number), outcomes, length)
    return [0] if partner is None else [1, length, partner]


def answer_chain(setting, reader):
    first_numbers = reader.taken_counted()
    second_numbers = reader.taken_counted()
    try:
        first = whole_relation(first_numbers)
        second = whole_relation(second_numbers)
    except NotWhole:
        return [-5]
    if not are_chained(first, second):
        return [0]
    return [1] + relation_numbers(chained(first, second))


def answer_kept(setting, reader):
    which = reader.taken()
    numbers = reader.taken_counted()
    if which < 0 or which > 2:
        return [-2]
    try:
        relation = whole_relation(numbers)
    except NotWhole:
        return [-5]
    program = setting.programs[0] + setting.programs[1] if which == 2 else setting.programs[which]
    # At how many rows it is so, by KEPT, BROKEN and OFF.
    counts = [0, 0, 0]
    for row in size_rows(setting):
        state = state_at(relation, program, row)
        counts[state] = counts[state] + 1
    return counts


# By a call's number.
CALLS = (
    answer_size,
    answer_program,
    answer_turn,
    answer_compose,
    answer_back,
    answer_generated,
    answer_orbit,
    answer_orbits,
    answer_alike,
    answer_group,
    answer_partner,
    answer_chain,
    answer_kept,
)


def answers(calls):
    setting = Setting()
    reader = Reader(calls)
    given = []
    while reader.has_more():
        answer_call = CALLS[reader.taken()]
        answer = answer_call(setting, reader)
        given.append(len(answer))
        given.extend(answer)
    return given
