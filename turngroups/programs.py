"""The calls, and their answers.

Each answer_.. takes what its call hands over from the reader, and gives back what is answered, number by number; a
refusal is its number alone.
"""

from turngroups.reader import NotWhole, Reader
from turngroups.rows import row_count, whole_row
from turngroups.setting import Setting
from turngroups.steps import whole_program
from turngroups.turns import idle_turn, is_turn, number_of, reached, signs_of, sources_of
from turngroups.turns import turn_count, turn_of, turned, undone


def are_turns(setting, numbers):
    return all([is_turn(setting.places, number) for number in numbers])


def turns_of(setting, numbers):
    return [turn_of(setting.places, number) for number in numbers]


def answer_size(setting, reader):
    places = reader.taken()
    height = reader.taken()
    if places < 0 or places > 4 or height < 0 or height > 9:
        return [-1]
    rows = row_count(places, height)
    if rows > 130:
        return [-7]
    setting.places = places
    setting.height = height
    return [rows, turn_count(places)]


def answer_program(setting, reader):
    which = reader.taken()
    numbers = reader.taken_counted()
    try:
        program = whole_program(numbers)
    except NotWhole:
        return [-1]
    if which != 0 and which != 1:
        return [-2]
    setting.programs[which] = program
    return [len(program)]


def answer_turn(setting, reader):
    number = reader.taken()
    if not is_turn(setting.places, number):
        return [-2]
    turn = turn_of(setting.places, number)
    return sources_of(turn) + signs_of(turn)


def answer_compose(setting, reader):
    later = reader.taken()
    earlier = reader.taken()
    if not are_turns(setting, [later, earlier]):
        return [-2]
    return [number_of(turned(turn_of(setting.places, later), turn_of(setting.places, earlier)))]


def answer_back(setting, reader):
    number = reader.taken()
    if not is_turn(setting.places, number):
        return [-2]
    return [number_of(undone(turn_of(setting.places, number)))]


def answer_generated(setting, reader):
    numbers = reader.taken_counted()
    if not are_turns(setting, numbers):
        return [-2]
    group = reached(turns_of(setting, numbers), idle_turn(setting.places))
    return [len(group)] + sorted([number_of(turn) for turn in group])


def answer_orbit(setting, reader):
    numbers = reader.taken_counted()
    row_numbers = reader.taken_counted()
    try:
        row = whole_row(row_numbers, setting.places)
    except NotWhole:
        return [-5]
    if not are_turns(setting, numbers):
        return [-2]
    orbit = sorted(reached(turns_of(setting, numbers), row))
    answer = [len(orbit)]
    for member in orbit:
        answer.extend(member)
    return answer


# By a call's number.
CALLS = (
    answer_size,
    answer_program,
    answer_turn,
    answer_compose,
    answer_back,
    answer_generated,
    answer_orbit,
)


def answers(calls):
    setting = Setting()
    reader = Reader(calls)
    given = []
    while reader.has_more():
        answer_call = CALLS[reader.taken()]
        answer = answer_call(setting, reader)
        given.append(len(answer))
        given.extend(answer)
    return given
