import unittest

from tests.helper import (
    MOST, all_rows, all_turns, alike, ask, do_turn, generated, group, partner, program, run, size,
)

SIZES = [(0, 0), (0, 9), (1, 0), (1, 9), (2, 0), (2, 1), (2, 5), (3, 1), (4, 0), (4, 1)]
CUBED = [3, 1, 99, 1, 99, 1, 99]

PROGRAMS = [
    [0], [1, 0, 3], [1, 3], [1, 4], [1, 5], [1, 6, 1], [1, 7, 0], [1, 7, 1], [1, 7, 2], [1, 8, 2], [1, 9, 0], [1, 10],
    [1, 11], [1, 12], [1, 13], [1, 14], [1, 15], [1, 16], [1, 17], [2, 2, 2, 11], [2, 3, 4], [2, 3, 12], [2, 10, 14],
    [2, 1, -1, 5], [3, 7, 2, 15, 3], [3, 8, 1, 17, 7, 4], CUBED, [4] + CUBED[1:] + [11], [5, 7, 1] + CUBED[1:] + [14],
    [6, 0, -1] + CUBED[1:] + [7, 0, 11], [2, 11, 17], [3, 11, 17, 17], [4, 11, 17, 17, 17], [1, 1, 0], [2, 16, 17],
]


def asked(n, h, numbers, calls):
    """The answers of any number of calls, each after the size and the first program."""
    parts = []
    for start in range(0, len(calls), 13):
        parts.extend(ask(size(n, h), program(0, numbers), *calls[start:start + 13])[2:])
    return parts


def first_unlike(told, rows, numbers):
    for place, row in enumerate(rows):
        if run(numbers, do_turn(told, row)) != run(numbers, row):
            return place
    return None


def told_alike(n, h, numbers):
    """For each turn what alike is to answer."""
    rows = all_rows(n, h)
    found = [first_unlike(told, rows, numbers) for told in all_turns(n)]
    return [[1] if place is None else [0, place] for place in found]


def told_partner(told, rows, numbers):
    outcomes = [run(numbers, row) for row in rows]
    lengths = {-1 if outcome is None else len(outcome) for outcome in outcomes}
    if len(lengths) != 1 or not lengths <= {0, 1, 2, 3, 4}:
        return [0]
    length = lengths.pop()
    behind = [run(numbers, do_turn(told, row)) for row in rows]
    for number, other in enumerate(all_turns(length)):
        if [do_turn(other, outcome) for outcome in outcomes] == behind:
            return [1, length, number]
    return [0]


class AlikeTest(unittest.TestCase):
    def test_example(self):
        given = ask(size(2, 1), program(0, [1, 11]), alike(4), alike(1))
        self.assertEqual(given[2:], [[1], [0, 0]])

    def test_the_first_row_at_which_it_does_not(self):
        # The other sign leaves 0 alone as it is.
        self.assertEqual(asked(1, 0, [0], [alike(0), alike(1)]), [[1], [1]])
        self.assertEqual(asked(1, 1, [0], [alike(0), alike(1)]), [[1], [0, 0]])
        # What's above 8 tells -9 and 9 apart; when -9 and 9 are made alike, it's -8 and 8, and so on.
        self.assertEqual(asked(1, 9, [1, 9, 8], [alike(1)]), [[0, 0]])
        self.assertEqual(asked(1, 9, [1, 2, 9], [alike(1)]), [[0, 1]])
        self.assertEqual(asked(1, 9, [3, 0, 1, 2, 2, 7, 1], [alike(1)]), [[1]])
        # Two change places: -1 -1 stays, -1 0 is the first one that doesn't.
        self.assertEqual(asked(2, 1, [0], [alike(4)]), [[0, 1]])
        # Only 0 1 and 1 0 have numbers that differ, when all below 0 are gone.
        self.assertEqual(asked(2, 1, [2, 9, -1, 5], [alike(4)]), [[0, 5]])

    def test_where_outcomes_are_none(self):
        # None at all rows but -1, 0 and 1: the other sign tells apart -1 and 1, which stand behind -2.
        self.assertEqual(asked(1, 2, CUBED, [alike(1)]), [[0, 1]])
        # None at both -2 and 2, and how many numbers else.
        self.assertEqual(asked(1, 2, [4] + CUBED[1:] + [14], [alike(1)]), [[1]])
        # None at 1 alone, since it's 2 first: an outcome and none are not alike.
        self.assertEqual(asked(1, 1, [5, 0, 1] + CUBED[1:] + [14], [alike(0), alike(1)]), [[1], [0, 0]])
        # None everywhere.
        self.assertEqual(asked(1, 9, [7, 0, 10] + CUBED[1:] + [1, 99, 1, 99, 14], [alike(1)]), [[1]])
        self.assertEqual(asked(4, 1, [5, 17, 17, 17, 17, 7, 1], [alike(0), alike(383)]), [[1], [1]])

    def test_an_outcome_without_numbers_is_not_none(self):
        # -2 to 1 have an outcome without numbers, 2 has none.
        self.assertEqual(asked(1, 2, [5, 9, 1] + CUBED[1:] + [7, 0], [alike(1)]), [[0, 0]])

    def test_the_second_program_is_not_asked(self):
        given = ask(size(2, 1), program(1, [1, 11]), alike(4), program(0, [1, 11]), program(1, [0]), alike(4))
        self.assertEqual(given[2], [0, 1])
        self.assertEqual(given[5], [1])

    def test_every_turn(self):
        for numbers in PROGRAMS:
            for n, h in SIZES[:-1]:
                given = asked(n, h, numbers, [alike(number) for number in range(len(all_turns(n)))])
                self.assertEqual(given, told_alike(n, h, numbers), (n, h, numbers))

    def test_every_turn_of_four_places(self):
        for numbers in ([1, 11], [2, 3, 11], [1, 16]):
            given = asked(4, 1, numbers, [alike(number) for number in range(384)])
            self.assertEqual(given, told_alike(4, 1, numbers), numbers)

    def test_no_such_turn(self):
        for n in range(5):
            count = len(all_turns(n))
            given = ask(size(n, 1), *[alike(number) for number in (-1, count, MOST, -MOST, -count)])
            self.assertEqual(given[1:], [[-2]] * 5, n)

    def test_new_object(self):
        self.assertEqual(ask(alike(0), alike(1), alike(-1)), [[1], [-2], [-2]])


class GroupTest(unittest.TestCase):
    def test_example(self):
        self.assertEqual(ask(size(2, 1), program(0, [1, 11]), group())[2], [2, 0, 4])

    def test_every_program(self):
        for numbers in PROGRAMS:
            for n, h in SIZES[:-1]:
                members = [number for number, answer in enumerate(told_alike(n, h, numbers)) if answer == [1]]
                self.assertEqual(asked(n, h, numbers, [group()]), [[len(members)] + members], (n, h, numbers))

    def test_four_places(self):
        for numbers, count in [([0], 1), ([1, 11], 24), ([2, 3, 11], 384), ([1, 14], 384), ([1, 7, 2], 8),
                               ([2, 7, 1, 3], 96), ([5, 17, 17, 17, 17, 14], 384)]:
            answer = asked(4, 1, numbers, [group()])[0]
            self.assertEqual(answer[0], count, numbers)
            self.assertEqual(answer, [count] + [number for number, alike_there in enumerate(told_alike(4, 1, numbers))
                                                if alike_there == [1]])

    def test_it_is_a_group(self):
        for numbers in PROGRAMS[::3]:
            answer = asked(3, 1, numbers, [group()])[0]
            self.assertEqual(ask(size(3, 1), generated(answer[1:21]))[1][0] <= answer[0], True)
            if answer[0] <= 20:
                self.assertEqual(ask(size(3, 1), generated(answer[1:]))[1], answer)

    def test_where_outcomes_are_none(self):
        # -2 and 2 have none, -1 and 1 have another one each; or they have the same one.
        self.assertEqual(asked(1, 2, CUBED, [group()]), [[1, 0]])
        self.assertEqual(asked(1, 2, [4] + CUBED[1:] + [3], [group()]), [[2, 0, 1]])
        # 1 has none, -1 has one.
        self.assertEqual(asked(1, 1, [5, 0, 1] + CUBED[1:] + [14], [group()]), [[1, 0]])
        # The row's first number tells whether there's one: the second one's sign may change.
        self.assertEqual(asked(2, 2, [6, 7, 1, 0, 1] + CUBED[1:] + [14], [group()]), [[2, 0, 1]])
        # None everywhere.
        self.assertEqual(asked(2, 1, [6, 17, 17, 17, 17, 17, 14], [group()]), [[8] + list(range(8))])

    def test_one_row(self):
        self.assertEqual(asked(3, 0, [0], [group()]), [[48] + list(range(48))])

    def test_new_object(self):
        self.assertEqual(ask(group()), [[1, 0]])


class PartnerTest(unittest.TestCase):
    def test_example(self):
        given = ask(size(2, 1), program(0, [1, 11]), partner(3), partner(1))
        self.assertEqual(given[2:], [[1, 1, 1], [0]])

    def test_the_same_length(self):
        # Without steps each turn goes with itself, if there are numbers that differ enough.
        self.assertEqual(asked(2, 2, [0], [partner(number) for number in range(8)]),
                         [[1, 2, number] for number in range(8)])
        # Turned round: what was done to the first one is done to the last one.
        self.assertEqual(asked(2, 2, [1, 5], [partner(number) for number in range(8)]),
                         [[1, 2, number] for number in (0, 2, 1, 3, 4, 6, 5, 7)])

    def test_the_first_one_of_several(self):
        # All outcomes are 0 0 0: each turn goes with it.
        self.assertEqual(asked(3, 1, [1, 1, 0], [partner(47)]), [[1, 3, 0]])
        self.assertEqual(asked(3, 0, [0], [partner(47)]), [[1, 3, 0]])
        # Twice the sum: changed places or not, both signs change.
        self.assertEqual(asked(2, 1, [2, 11, 17], [partner(3), partner(4)]), [[1, 2, 3], [1, 2, 0]])

    def test_the_length_is_zero(self):
        for n in range(5):
            last = len(all_turns(n)) - 1
            self.assertEqual(asked(n, 1, [1, 7, 0], [partner(0), partner(last)]), [[1, 0, 0], [1, 0, 0]])
        self.assertEqual(asked(1, 9, [1, 15], [partner(1)]), [[1, 0, 0]])

    def test_the_length_is_four(self):
        self.assertEqual(asked(4, 1, [0], [partner(number) for number in (0, 1, 97, 144, 383)]),
                         [[1, 4, number] for number in (0, 1, 97, 144, 383)])
        # Two numbers twice: both first ones go with the first one's sign.
        told = all_turns(4)
        self.assertEqual(told[10], ((0, 1, 2, 3), (1, 0, 1, 0)))
        self.assertEqual(asked(2, 1, [1, 17], [partner(2)]), [[1, 4, 10]])
        self.assertEqual(asked(2, 1, [1, 17], [partner(4)]), [[1, 4, told.index(((1, 0, 3, 2), (0, 0, 0, 0)))]])

    def test_the_length_is_above_four(self):
        # Five, six and eight numbers: nothing goes with a turn, also with the one that changes nothing.
        self.assertEqual(asked(3, 1, [2, 17, 7, 5], [partner(0)]), [[0]])
        self.assertEqual(asked(3, 1, [2, 17, 7, 4], [partner(0)]), [[1, 4, 0]])
        self.assertEqual(asked(3, 1, [1, 17], [partner(0), partner(47)]), [[0], [0]])
        self.assertEqual(asked(4, 0, [1, 17], [partner(0)]), [[0]])

    def test_lengths_differ(self):
        self.assertEqual(asked(2, 1, [1, 10], [partner(number) for number in range(8)]), [[0]] * 8)
        self.assertEqual(asked(1, 9, [1, 9, 8], [partner(0)]), [[0]])
        self.assertEqual(asked(1, 9, [1, 9, -9], [partner(0)]), [[0]])
        # The first row's outcome is the longest one.
        self.assertEqual(asked(1, 9, [2, 1, -1, 9, 8], [partner(0), partner(1)]), [[0], [0]])
        self.assertEqual(asked(2, 1, [2, 1, -1, 9, -1], [partner(number) for number in range(8)]), [[0]] * 8)
        self.assertEqual(asked(1, 9, [1, 9, 9], [partner(0)]), [[1, 0, 0]])

    def test_an_outcome_is_none(self):
        self.assertEqual(asked(1, 1, CUBED, [partner(0), partner(1)]), [[1, 1, 0], [1, 1, 1]])
        self.assertEqual(asked(1, 2, CUBED, [partner(0), partner(1)]), [[0], [0]])
        # None at the last row alone, and none at the first row alone.
        self.assertEqual(asked(1, 1, [4, 0, 1] + CUBED[1:], [partner(0)]), [[0]])
        self.assertEqual(asked(1, 1, [4, 0, -1] + CUBED[1:], [partner(0)]), [[0]])
        # None everywhere.
        self.assertEqual(asked(2, 1, [6, 17, 17, 17, 17, 17, 7, 1], [partner(0)]), [[0]])

    def test_none_goes_with_it(self):
        self.assertEqual(asked(1, 1, [1, 0, 1], [partner(0), partner(1)]), [[1, 1, 0], [0]])
        self.assertEqual(asked(2, 1, [1, 12], [partner(1), partner(4)]), [[0], [1, 1, 0]])

    def test_every_turn(self):
        for numbers in PROGRAMS:
            for n, h in [(0, 0), (1, 0), (1, 9), (2, 1), (3, 1)]:
                rows = all_rows(n, h)
                expected = [told_partner(told, rows, numbers) for told in all_turns(n)]
                given = asked(n, h, numbers, [partner(number) for number in range(len(expected))])
                self.assertEqual(given, expected, (n, h, numbers))

    def test_four_places(self):
        rows = all_rows(4, 1)
        for numbers in ([0], [1, 15], [2, 1, 2, 5], [1, 11], [2, 3, 4]):
            chosen = range(0, 384, 37)
            expected = [told_partner(all_turns(4)[number], rows, numbers) for number in chosen]
            self.assertEqual(asked(4, 1, numbers, [partner(number) for number in chosen]), expected, numbers)

    def test_the_second_program_is_not_asked(self):
        given = ask(size(2, 1), program(1, [1, 11]), partner(3), program(0, [1, 11]), program(1, [1, 10]), partner(3))
        self.assertEqual((given[2], given[5]), ([1, 2, 3], [1, 1, 1]))

    def test_no_such_turn(self):
        for n in range(5):
            count = len(all_turns(n))
            for numbers in ([0], [1, 17], [1, 10]):
                calls = [partner(number) for number in (-1, count, MOST, -MOST, -count)]
                self.assertEqual(asked(n, 1, numbers, calls), [[-2]] * 5, n)

    def test_new_object(self):
        self.assertEqual(ask(partner(0), partner(1), partner(-1)), [[1, 0, 0], [-2], [-2]])


if __name__ == "__main__":
    unittest.main()
