import unittest

from tests.helper import (
    MOST, all_rows, all_turns, ask, ask_sized, do_turn, generated, group_of, orbit, orbits, program, size,
)


def listed(row):
    return [len(row)] + list(row)


class GeneratedTest(unittest.TestCase):
    def check(self, n, lists):
        given = ask_sized(n, [generated(numbers) for numbers in lists])
        for numbers, answer in zip(lists, given):
            group = group_of(n, numbers)
            self.assertEqual(answer, [len(group)] + group, (n, numbers))

    def test_example(self):
        self.assertEqual(ask(size(2, 1), generated([5]))[1], [4, 0, 3, 5, 6])

    def test_without_turns(self):
        for n in range(5):
            self.assertEqual(ask_sized(n, [generated([])]), [[1, 0]])

    def test_the_turn_that_changes_nothing(self):
        for n in range(5):
            self.assertEqual(ask_sized(n, [generated([0]), generated([0] * 20)]), [[1, 0], [1, 0]])

    def test_one_turn(self):
        for n in range(4):
            self.check(n, [[number] for number in range(len(all_turns(n)))])
        self.check(4, [[number] for number in range(0, 384, 7)])

    def test_two_turns(self):
        self.check(2, [[first, second] for first in range(8) for second in range(8)])
        self.check(3, [[first, (first * 7 + step * 11) % 48] for first in range(48) for step in range(3)])

    def test_several_turns(self):
        self.check(4, [[8, 2], [48, 1], [16, 96, 3], [383, 15], [375, 200, 100]])
        self.check(3, [[5, 5, 5, 47], list(range(28, 48)), [47] * 20])

    def test_the_whole_group_of_four_places(self):
        # The first two change places; all move on by one; the last one's sign.
        self.assertEqual(all_turns(4)[96], ((1, 0, 2, 3), (0, 0, 0, 0)))
        self.assertEqual(all_turns(4)[144], ((1, 2, 3, 0), (0, 0, 0, 0)))
        self.assertEqual(all_turns(4)[1], ((0, 1, 2, 3), (0, 0, 0, 1)))
        self.assertEqual(ask_sized(4, [generated([96, 144, 1])]), [[384] + list(range(384))])

    def test_twenty_turns_of_four_places(self):
        spread = [number * 19 for number in range(20)]
        self.check(4, [spread, list(range(364, 384))])
        # The last twenty have all signs, but of the places' orders only those that turn a square over.
        self.assertEqual(ask_sized(4, [generated(list(range(364, 384)))])[0][0], 128)

    def test_order_of_what_is_told(self):
        given = ask_sized(3, [generated([8, 1]), generated([1, 8]), generated([1, 8, 1, 8, 0])])
        self.assertEqual(given[0], given[1])
        self.assertEqual(given[0], given[2])

    def test_no_such_turn(self):
        for n in range(5):
            count = len(all_turns(n))
            calls = []
            for wrong in (-1, count, MOST, -MOST):
                calls += [generated([wrong]), generated([wrong, 0]), generated([0] * 19 + [wrong])]
            self.assertEqual(ask_sized(n, calls), [[-2]] * 12, n)

    def test_new_object(self):
        self.assertEqual(ask(generated([]), generated([0]), generated([1])), [[1, 0], [1, 0], [-2]])


class OrbitTest(unittest.TestCase):
    def check(self, n, pairs):
        told = all_turns(n)
        given = ask_sized(n, [orbit(numbers, listed(row)) for numbers, row in pairs])
        for (numbers, row), answer in zip(pairs, given):
            rows = sorted({do_turn(told[number], row) for number in group_of(n, numbers)})
            expected = [len(rows)]
            for member in rows:
                expected.extend(member)
            self.assertEqual(answer, expected, (n, numbers, row))

    def test_example(self):
        self.assertEqual(ask(size(2, 1), orbit([5], [2, 1, 2]))[1], [4, -2, 1, -1, -2, 1, 2, 2, -1])

    def test_without_turns(self):
        for n in range(5):
            row = list(range(7, 7 - n, -1))
            self.assertEqual(ask_sized(n, [orbit([], listed(row))]), [[1] + row])

    def test_without_places(self):
        self.assertEqual(ask(orbit([], [0]), size(0, 3), orbit([0, 0], [0])), [[1], [1, 1], [1]])

    def test_rows_may_lie_outside_the_size(self):
        self.assertEqual(ask(size(1, 0), orbit([1], [1, 99]))[1], [2, -99, 99])

    def test_ordinary(self):
        self.check(1, [([1], (0,)), ([1], (5,)), ([0], (5,))])
        rows = [(0, 0), (1, 1), (1, -1), (0, 3), (-99, 99), (2, 1)]
        self.check(2, [([number], row) for number in range(8) for row in rows])
        self.check(2, [([4, 1], row) for row in rows])
        rows = [(0, 0, 0), (1, 1, 2), (1, -1, 0), (5, 6, 7), (-99, 99, 98)]
        self.check(3, [([number], row) for number in range(0, 48, 5) for row in rows])
        self.check(3, [([8, 1], row) for row in rows])
        self.check(4, [([96, 3], (1, 2, 2, 0)), ([144], (9, 8, 7, 6)), ([383, 15], (-1, 2, -3, 4))])

    def test_the_longest_answer(self):
        row = (1, -2, 30, 99)
        self.check(4, [([96, 144, 1], row)])
        answer = ask(size(4, 1), orbit([96, 144, 1], listed(row)))[1]
        self.assertEqual(len(answer), 1 + 384 * 4)

    def test_not_a_row(self):
        lists = [
            [], [2], [2, 1], [2, 1, 2, 3], [1, 1, 2], [3, 1, 2], [0, 1, 2], [-2, 1, 2], [1, 2], [MOST, 1, 2],
            [2, 100, 1], [2, 1, 100], [2, -100, 1], [2, 1, -100], [2, MOST, -MOST], [2] + [0] * 19,
        ]
        given = ask_sized(2, [orbit([5], row) for row in lists])
        for row, answer in zip(lists, given):
            self.assertEqual(answer, [-5], row)

    def test_bounds_of_a_rows_numbers(self):
        given = ask_sized(1, [orbit([], [1, number]) for number in (-100, -99, 0, 99, 100)])
        self.assertEqual(given, [[-5], [1, -99], [1, 0], [1, 99], [-5]])

    def test_a_row_of_another_length(self):
        for n in range(5):
            given = ask_sized(n, [orbit([], listed([1] * count)) for count in range(11)])
            for count, answer in enumerate(given):
                self.assertEqual(answer, [1] + [1] * n if count == n else [-5], (n, count))

    def test_no_such_turn(self):
        for n in range(5):
            row = listed([3] * n)
            calls = []
            for wrong in (-1, len(all_turns(n)), MOST, -MOST):
                calls += [orbit([wrong], row), orbit([0, wrong], row), orbit([wrong] + [0] * 19, row)]
            self.assertEqual(ask_sized(n, calls), [[-2]] * 12, n)

    def test_refusal_of_the_row_comes_ahead_of_turns(self):
        given = ask_sized(2, [orbit([8], row) for row in ([], [2, 1], [1, 1], [2, 100, 0], [2, 1, 2, 3], [2, 1, 2])])
        self.assertEqual(given, [[-5]] * 5 + [[-2]])

    def test_new_object(self):
        self.assertEqual(ask(orbit([], []), orbit([], [1, 1]), orbit([1], [0]), orbit([1], [])),
                         [[-5], [-5], [-2], [-5]])


class OrbitsTest(unittest.TestCase):
    def check(self, n, h, lists):
        told = all_turns(n)
        given = ask_sized(n, [orbits(numbers) for numbers in lists], h)
        for numbers, answer in zip(lists, given):
            members = group_of(n, numbers)
            found = {frozenset(do_turn(told[number], row) for number in members) for row in all_rows(n, h)}
            self.assertEqual(answer, [len(found)], (n, h, numbers))

    def test_example(self):
        self.assertEqual(ask(size(2, 1), orbits([5]))[1], [3])

    def test_without_turns(self):
        for n, h, rows in [(0, 0, 1), (0, 9, 1), (1, 0, 1), (1, 9, 19), (2, 5, 121), (3, 2, 125), (4, 1, 81)]:
            self.assertEqual(ask_sized(n, [orbits([]), orbits([0]), orbits([0] * 20)], h), [[rows]] * 3)

    def test_one_turn(self):
        self.check(1, 9, [[0], [1]])
        for h in range(6):
            self.check(2, h, [[number] for number in range(8)])
        for h in range(3):
            self.check(3, h, [[number] for number in range(48)])
        self.check(4, 0, [[number] for number in range(0, 384, 29)])
        self.check(4, 1, [[number] for number in range(0, 384, 11)])

    def test_several_turns(self):
        self.check(2, 5, [[first, second] for first in range(8) for second in range(8)])
        self.check(3, 2, [[8, 1], [47, 16], [5, 5, 5, 47], list(range(28, 48))])
        self.check(4, 1, [[96, 144], [8, 2], [383, 15], [375, 200, 100], [number * 19 for number in range(20)]])

    def test_the_whole_group(self):
        # Of four places and numbers up to 1 without their sign: how many are 0.
        self.assertEqual(ask(size(4, 1), orbits([96, 144, 1]))[1], [5])
        # Places alone: how often there's -1, 0 and 1.
        self.assertEqual(ask(size(4, 1), orbits([96, 144]))[1], [15])

    def test_programs_are_not_asked(self):
        given = ask(size(2, 1), orbits([5]), program(0, [1, 11]), program(1, [1, 17]), orbits([5]))
        self.assertEqual((given[1], given[4]), ([3], [3]))

    def test_no_such_turn(self):
        for n in range(5):
            calls = []
            for wrong in (-1, len(all_turns(n)), MOST, -MOST):
                calls += [orbits([wrong]), orbits([wrong, 0]), orbits([0] * 19 + [wrong])]
            self.assertEqual(ask_sized(n, calls, 1), [[-2]] * 12, n)

    def test_new_object(self):
        self.assertEqual(ask(orbits([]), orbits([0]), orbits([1])), [[1], [1], [-2]])


if __name__ == "__main__":
    unittest.main()
