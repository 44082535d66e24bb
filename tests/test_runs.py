import unittest

from turngroups.runs import outcome_of
from turngroups.steps import whole_program

from tests.helper import all_rows, ask, count_kept, kept, program, relation, run, size

SIZES = [(0, 0), (0, 9), (1, 0), (1, 9), (2, 1), (2, 5), (3, 1), (3, 2), (4, 0), (4, 1)]
NONE = [0]

# Each step, with the least, the greatest and some other numbers where it has one.
STEPS = (
    [[kind, amount] for kind in (0, 1, 9) for amount in (-99, -2, -1, 0, 1, 3, 99)]
    + [[2, amount] for amount in range(1, 10)]
    + [[kind, amount] for kind in (6, 7, 8) for amount in range(10)]
    + [[kind] for kind in (3, 4, 5, 10, 11, 12, 13, 14, 15, 16, 17)]
)

# 10 and -10, each number of the row so, then as far as numbers may go.
MILLION = [7, 1, 0, 0, 10] + [1, 10] * 5
MILLION_BELOW = [7, 1, 0, 0, -10] + [1, 10] * 5


def joined(*programs):
    """All steps of the programs as one program."""
    steps = []
    for numbers in programs:
        steps.extend(numbers[1:])
    return [sum(numbers[0] for numbers in programs)] + steps


def number(value):
    """A program that makes of each row the one number."""
    return [3, 14, 1, 0, 0, value]


def compared(n, h, numbers, other, condition=(0,), stand=0):
    """At how many rows of the size what one program makes stands to what the other one makes: yes, no, off.

    Both of the object's programs are without steps, so a relation's sides are its turnings' outcomes.
    """
    return ask(size(n, h), kept(0, relation(condition, numbers, stand, other)))[1]


class StepTest(unittest.TestCase):
    """Each step by a call, counted by hand."""

    def same(self, n, h, numbers, other):
        rows = len(all_rows(n, h))
        self.assertEqual(compared(n, h, numbers, other), [rows, 0, 0], (n, h, numbers, other))

    def test_add(self):
        self.assertEqual(compared(1, 9, [1, 0, 5], number(7)), [1, 18, 0])
        self.assertEqual(compared(1, 9, [1, 0, 99], number(90)), [1, 18, 0])
        self.assertEqual(compared(1, 9, [1, 0, -99], number(-90)), [1, 18, 0])
        self.assertEqual(compared(2, 1, [1, 0, 1], [1, 0, 1]), [9, 0, 0])
        # Each number: both are 1 more, so the sum is 2 more.
        self.same(2, 5, [2, 0, 1, 11], [2, 11, 0, 2])

    def test_times(self):
        self.assertEqual(compared(1, 9, [1, 1, -3], number(27)), [1, 18, 0])
        self.assertEqual(compared(1, 9, [1, 1, 0], number(0)), [19, 0, 0])
        self.assertEqual(compared(1, 9, [1, 1, 99], number(99)), [1, 18, 0])
        self.same(3, 2, [2, 1, -7, 11], [2, 11, 1, -7])

    def test_rest(self):
        # -9 to 9: of each rest of 4 there are those below 0 too, -9 has 3.
        self.assertEqual([compared(1, 9, [1, 2, 4], number(rest))[0] for rest in range(-4, 5)],
                         [0, 0, 0, 0, 5, 5, 4, 5, 0])
        self.assertEqual(compared(1, 9, [1, 2, 1], number(0)), [19, 0, 0])
        self.assertEqual([compared(1, 9, [1, 2, 9], number(rest))[0] for rest in range(-1, 10)],
                         [0, 3, 2, 2, 2, 2, 2, 2, 2, 2, 0])
        # -1 is 2 above -3.
        self.same(1, 9, [4, 1, 0, 0, -1, 2, 3, 0, -2], number(0))
        # A multiple has no rest, below 0 too.
        self.same(1, 9, [2, 1, 5, 2, 5], number(0))

    def test_abs(self):
        self.assertEqual([compared(1, 9, [1, 3], number(value))[0] for value in (-9, -1, 0, 1, 9)], [0, 0, 1, 2, 2])
        self.same(2, 5, [2, 3, 1, -1], [3, 1, -1, 3, 1, -1])

    def test_sort(self):
        self.assertEqual(compared(2, 1, [1, 4], NONE), [6, 3, 0])
        self.assertEqual(compared(3, 1, [1, 4], NONE), [10, 17, 0])
        self.same(3, 1, [2, 4, 7, 1], [1, 13])
        self.same(3, 1, [2, 4, 8, 2], [1, 12])

    def test_reverse(self):
        self.assertEqual(compared(2, 1, [1, 5], NONE), [3, 6, 0])
        self.assertEqual(compared(3, 1, [1, 5], NONE), [9, 18, 0])
        self.same(3, 1, [2, 5, 7, 1], [1, 8, 2])
        self.same(0, 0, [1, 5], NONE)

    def test_rotate(self):
        self.assertEqual(compared(3, 1, [1, 6, 1], NONE), [3, 24, 0])
        # The first one goes behind the others.
        self.same(3, 1, [2, 6, 1, 7, 2], [1, 8, 1])
        self.same(3, 1, [2, 6, 1, 8, 2], [1, 7, 1])
        self.same(3, 1, [2, 6, 2, 7, 1], [1, 8, 2])
        self.same(3, 1, [1, 6, 4], [1, 6, 1])
        self.same(3, 1, [1, 6, 9], NONE)
        self.same(4, 1, [1, 6, 9], [1, 6, 1])
        self.same(2, 1, [1, 6, 0], NONE)

    def test_rotate_without_numbers(self):
        for amount in range(10):
            self.same(0, 0, [1, 6, amount], NONE)
            self.same(2, 1, [2, 7, 0, 6, amount], [1, 7, 0])

    def test_take(self):
        self.assertEqual(compared(2, 1, [1, 7, 1], number(1)), [3, 6, 0])
        self.same(3, 1, [2, 7, 2, 14], number(2))
        self.same(3, 1, [1, 7, 3], NONE)
        self.same(3, 1, [1, 7, 4], NONE)
        self.same(3, 1, [1, 7, 9], NONE)
        self.same(0, 0, [1, 7, 9], NONE)
        self.same(3, 1, [2, 7, 0, 14], number(0))

    def test_drop(self):
        self.assertEqual(compared(2, 1, [1, 8, 1], number(1)), [3, 6, 0])
        self.same(3, 1, [2, 8, 1, 14], number(2))
        self.same(3, 1, [1, 8, 0], NONE)
        self.same(3, 1, [2, 8, 3, 14], number(0))
        self.same(3, 1, [2, 8, 9, 14], number(0))
        self.same(0, 0, [1, 8, 9], NONE)

    def test_above(self):
        self.assertEqual([compared(1, 9, [2, 9, limit, 14], number(1))[0] for limit in (-99, -10, -9, 0, 8, 9, 99)],
                         [19, 19, 18, 9, 1, 0, 0])
        # As they stand: only a row that rises is sorted already.
        self.assertEqual(compared(2, 1, [1, 9, -2], [1, 4]), [6, 3, 0])

    def test_once(self):
        self.assertEqual([compared(3, 1, [2, 10, 14], number(count))[0] for count in range(5)], [0, 3, 18, 6, 0])
        # As they first stand: the last of three goes, if it's one of those before.
        self.same(2, 1, [2, 17, 10], [1, 10])
        self.same(2, 1, [4, 17, 8, 1, 10, 7, 1], [1, 8, 1])

    def test_sum(self):
        self.assertEqual([compared(2, 1, [1, 11], number(value))[0] for value in range(-3, 4)], [0, 1, 2, 3, 2, 1, 0])
        self.assertEqual(compared(0, 0, [1, 11], number(0)), [1, 0, 0])
        self.same(2, 1, [2, 7, 0, 11], number(0))

    def test_greatest(self):
        self.assertEqual([compared(2, 1, [1, 12], number(value))[0] for value in (-1, 0, 1)], [1, 3, 5])
        self.assertEqual(compared(0, 0, [1, 12], NONE), [1, 0, 0])
        self.same(2, 1, [3, 7, 0, 12, 14], number(0))
        self.same(2, 1, [2, 12, 14], number(1))

    def test_least(self):
        self.assertEqual([compared(2, 1, [1, 13], number(value))[0] for value in (-1, 0, 1)], [5, 3, 1])
        self.assertEqual(compared(0, 0, [1, 13], NONE), [1, 0, 0])
        self.same(2, 1, [3, 7, 0, 13, 14], number(0))
        self.same(2, 1, [2, 13, 14], number(1))

    def test_count(self):
        for n in range(5):
            for count in range(6):
                rows = len(all_rows(n, 1))
                self.assertEqual(compared(n, 1, [1, 14], [2, 7, 0, 11] if count == 0 else number(count)),
                                 [rows, 0, 0] if n == count else [0, rows, 0])

    def test_steps(self):
        # The second one less the first one: 2 only of -1 1.
        self.assertEqual([compared(2, 1, [1, 15], number(value))[0] for value in range(-3, 4)], [0, 1, 2, 3, 2, 1, 0])
        self.same(2, 1, [3, 15, 1, -1, 11], [4, 5, 15, 11, 0, 0])
        self.assertEqual(compared(2, 1, [1, 15], number(2), (2,)), [1, 5, 3])
        self.same(4, 1, [2, 15, 14], number(3))
        self.same(1, 9, [2, 15, 14], number(0))
        self.same(0, 0, [1, 15], NONE)

    def test_sums(self):
        self.same(3, 1, [2, 16, 14], number(3))
        self.same(3, 1, [2, 16, 8, 2], [1, 11])
        self.same(3, 1, [2, 16, 7, 1], [1, 7, 1])
        self.same(3, 1, [3, 16, 7, 2, 8, 1], [2, 7, 2, 11])
        self.same(3, 1, [2, 16, 15], [1, 8, 1])
        self.same(0, 0, [1, 16], NONE)

    def test_twice(self):
        self.same(3, 1, [2, 17, 14], number(6))
        self.same(3, 1, [2, 17, 7, 3], NONE)
        self.same(3, 1, [2, 17, 8, 3], NONE)
        self.same(0, 0, [1, 17], NONE)
        self.assertEqual(compared(2, 1, [1, 17], [2, 4, 17]), [6, 3, 0])

    def test_without_steps(self):
        for n, h in SIZES:
            self.same(n, h, NONE, NONE)

    def test_one_after_the_other(self):
        self.assertEqual(compared(1, 9, [2, 0, 1, 1, 2], number(6)), [1, 18, 0])
        self.assertEqual(compared(1, 9, [2, 1, 2, 0, 1], number(6)), [0, 19, 0])
        self.assertEqual(compared(1, 9, [2, 1, 2, 0, 1], number(7)), [1, 18, 0])
        self.assertEqual(compared(1, 9, [8] + [0, 1] * 8, number(17)), [1, 18, 0])


class BeyondTest(unittest.TestCase):
    """Where a run is beyond the relation is off."""

    def off(self, n, numbers, beyond):
        for h in (0, 1):
            rows = len(all_rows(n, h))
            with self.subTest(n=n, h=h, numbers=numbers):
                self.assertEqual(compared(n, h, numbers, numbers), [0, 0, rows] if beyond else [rows, 0, 0])

    def test_numbers_too_many(self):
        # Rows of 5, then of 40.
        forty = [5, 17, 7, 5, 17, 17, 17]
        self.off(4, forty, False)
        self.off(3, forty, False)
        self.assertEqual(compared(4, 1, joined(forty, [1, 14]), number(40)), [81, 0, 0])
        self.off(4, joined(forty, [1, 17]), True)
        # Rows of 21, then of 42.
        self.off(3, [4, 17, 17, 17, 8, 3], False)
        self.off(3, [5, 17, 17, 17, 8, 3, 17], True)
        # Rows of 20, then of 40.
        self.off(3, [5, 17, 17, 17, 8, 4, 17], False)
        self.off(4, [3, 17, 17, 17], False)
        self.off(4, [4, 17, 17, 17, 17], True)
        self.off(1, [5, 17, 17, 17, 17, 17], False)
        self.off(1, [6, 17, 17, 17, 17, 17, 17], True)
        self.off(0, [8] + [17] * 8, False)

    def test_numbers_too_many_in_the_middle(self):
        self.off(4, [5, 17, 17, 17, 17, 7, 1], True)
        self.off(4, [5, 17, 17, 17, 17, 14], True)
        self.off(4, [5, 17, 17, 17, 17, 10], True)
        self.off(3, [6, 17, 17, 17, 8, 3, 17, 7, 0], True)
        self.off(3, [6, 17, 17, 17, 8, 4, 17, 7, 0], False)

    def test_a_number_too_great(self):
        self.off(1, MILLION, False)
        self.off(1, joined(MILLION, [1, 0, 1]), True)
        self.off(1, joined(MILLION, [1, 0, -1]), False)
        self.assertEqual(compared(1, 1, joined(MILLION, [1, 11]), MILLION), [3, 0, 0])
        # One number of several is enough, at whatever place.
        self.off(2, joined(MILLION, [1, 16]), True)
        self.off(1, joined(MILLION, [1, 16]), False)
        self.off(2, joined(MILLION, [1, 11]), True)
        self.off(2, joined(MILLION, [1, 12]), False)

    def test_a_number_too_small(self):
        self.off(1, MILLION_BELOW, False)
        self.off(1, joined(MILLION_BELOW, [1, 0, -1]), True)
        self.off(1, joined(MILLION_BELOW, [1, 0, 1]), False)
        self.assertEqual(compared(1, 1, joined(MILLION_BELOW, [1, 3]), MILLION), [3, 0, 0])
        self.off(2, joined(MILLION_BELOW, [1, 16]), True)
        self.off(2, joined(MILLION_BELOW, [1, 11]), True)

    def test_a_number_in_the_middle(self):
        for last in ([0, -1], [7, 0], [14], [1, 0], [2, 9]):
            self.off(1, [8, 1, 0, 0, 10] + [1, 10] * 4 + [1, 11] + last, True)
            self.off(1, [8, 1, 0, 0, -10] + [1, 10] * 4 + [1, 11] + last, True)
            self.off(1, [8, 1, 0, 0, 10] + [1, 10] * 4 + [1, 10] + last, False)
            self.off(1, [8, 1, 0, 0, -10] + [1, 10] * 4 + [1, 10] + last, last == [0, -1])

    def test_only_some_rows(self):
        # 99 * 99 * 99 is 970299.
        cubed = [3, 1, 99, 1, 99, 1, 99]
        self.assertEqual(compared(1, 1, cubed, cubed), [3, 0, 0])
        self.assertEqual(compared(1, 2, cubed, cubed), [3, 0, 2])
        self.assertEqual(compared(1, 9, cubed, cubed), [3, 0, 16])
        self.assertEqual(compared(1, 9, joined(cubed, [1, 7, 0]), [1, 7, 0]), [3, 0, 16])
        # One number that's too great is enough: the rows of -1, 0 and 1 are left.
        self.assertEqual(compared(2, 2, cubed, cubed), [9, 0, 16])
        # -2 is gone before it's too small, 2 is not before it's too great.
        self.assertEqual(compared(1, 2, [4, 9, 1] + cubed[1:], [1, 7, 0]), [4, 0, 1])

    def test_neighbours_too_far_apart(self):
        # 970299 less -970299.
        far = [4, 1, 99, 1, 99, 1, 99, 15]
        self.assertEqual(compared(2, 1, far, far), [7, 0, 2])


class OutcomeTest(unittest.TestCase):
    """What comes of a program on each row of a size, against the words told in another way."""

    def check(self, numbers):
        for n, h in SIZES:
            for row in all_rows(n, h):
                self.assertEqual(outcome_of(whole_program(numbers), row), run(numbers, row), (numbers, row))

    def test_each_step(self):
        for step in STEPS:
            self.check([1] + step)

    def test_longer_programs(self):
        for numbers in [
            [2, 16, 15], [3, 17, 16, 15], [4, 5, 6, 2, 17, 10], [3, 9, 0, 17, 12], [3, 9, 0, 17, 13], [3, 8, 1, 14, 17],
            [4, 2, 3, 4, 10, 14], [8, 17, 17, 17, 17, 8, 5, 7, 4, 16, 11], [5, 1, 99, 1, 99, 1, 50, 15, 16],
            [6, 17, 6, 1, 9, -1, 15, 3, 4], [8, 17] + [16] * 7, [7, 17, 16, 1, 9, 1, -99, 1, 99, 16, 5],
            [3, 9, 99, 6, 9, 11], [4, 9, 99, 12, 17, 14], [8] + [15, 17] * 4, [8] + [17, 10] * 4, [8] + [16] * 8,
        ]:
            self.check(numbers)

    def test_rows_longer_than_a_size(self):
        row = (3, -1, 3, 0, 7, -1, -99, 12, 3)
        for step in STEPS:
            self.assertEqual(outcome_of(whole_program([1] + step), row), run([1] + step, row), step)

    def test_rows_as_long_as_may_be(self):
        # No call makes just 41 numbers.
        for count, there in [(39, True), (40, True), (41, False), (42, False)]:
            row = tuple(range(count))
            self.assertEqual(outcome_of(whole_program([1, 4]), row), row if there else None)

    def test_pairs_of_steps(self):
        row = (3, -1, 3, 0)
        for first in STEPS:
            for second in STEPS:
                numbers = [2] + first + second
                self.assertEqual(outcome_of(whole_program(numbers), row), run(numbers, row), numbers)

    def test_pairs_of_steps_by_a_call(self):
        for first in STEPS[::3]:
            for second in STEPS[1::3]:
                numbers = [2] + first + second
                for n, h in [(2, 1), (3, 1)]:
                    given = ask(size(n, h), program(0, numbers), kept(0, relation((0,), [1, 5], 1, [1, 3])))
                    self.assertEqual(given[2], count_kept([numbers], all_rows(n, h), (0,), [1, 5], 1, [1, 3]), numbers)


if __name__ == "__main__":
    unittest.main()
