import unittest

from turngroups.programs import answers

from tests.helper import (
    alike, ask, back, chain, compose, generated, group, kept, orbit, orbits, partner, program, relation, size, turn,
)

EXAMPLE = [
    0, 2, 1,
    2, 5,
    3, 5, 5,
    4, 5,
    5, 1, 5,
    6, 1, 5, 3, 2, 1, 2,
    1, 0, 2, 1, 11,
    1, 1, 2, 1, 3,
]
EXAMPLE_ANSWERS = [
    2, 9, 8,
    4, 1, 0, 0, 1,
    1, 3,
    1, 6,
    5, 4, 0, 3, 5, 6,
    9, 4, -2, 1, -1, -2, 1, 2, 2, -1,
    1, 1,
    1, 1,
]

# The example's other calls: a list has at most 15.
EXAMPLE_BEHIND = [
    0, 2, 1,
    7, 1, 5,
    1, 0, 2, 1, 11,
    8, 4,
    8, 1,
    9,
    10, 3,
    10, 1,
    1, 1, 2, 1, 3,
    11, 8, 0, 1, 1, -1, 0, 1, 1, -1, 6, 0, 1, 1, -1, 0, 0,
    12, 2, 6, 0, 1, 1, -1, 0, 0,
    12, 0, 6, 0, 1, 1, -1, 0, 0,
]
EXAMPLE_BEHIND_ANSWERS = [
    2, 9, 8,
    1, 3,
    1, 1,
    1, 1,
    2, 0, 0,
    3, 2, 0, 4,
    3, 1, 1, 1,
    1, 0,
    1, 1,
    7, 1, 0, 1, 1, -1, 0, 0,
    3, 9, 0, 0,
    3, 3, 6, 0,
]


def refuse(*given):
    raise AssertionError("the list handed in is changed")


class Watched(list):
    """A list that doesn't let itself be changed, not for a while either."""

    append = extend = insert = pop = remove = clear = reverse = sort = refuse
    __setitem__ = __delitem__ = __iadd__ = __imul__ = refuse


class AnswersTest(unittest.TestCase):
    def test_example(self):
        self.assertEqual(answers(list(EXAMPLE)), EXAMPLE_ANSWERS)
        self.assertEqual(answers(list(EXAMPLE_BEHIND)), EXAMPLE_BEHIND_ANSWERS)

    def test_example_call_by_call(self):
        first = size(2, 1)
        for call, expected in [
            (turn(5), [1, 0, 0, 1]), (compose(5, 5), [3]), (back(5), [6]), (generated([5]), [4, 0, 3, 5, 6]),
            (orbit([5], [2, 1, 2]), [4, -2, 1, -1, -2, 1, 2, 2, -1]), (program(0, [1, 11]), [1]),
            (orbits([5]), [3]), (chain([0, 1, 1, -1, 0, 1, 1, -1], [0, 1, 1, -1, 0, 0]), [1, 0, 1, 1, -1, 0, 0]),
        ]:
            with self.subTest(call=call):
                self.assertEqual(ask(first, call), [[9, 8], expected])

    def test_an_answer_without_numbers(self):
        self.assertEqual(answers([2, 0]), [0])
        self.assertEqual(answers([2, 0, 4, 0, 2, 0]), [0, 1, 0, 0])

    def test_a_refusal_is_its_number_alone(self):
        self.assertEqual(answers([0, 5, 0]), [1, -1])
        self.assertEqual(answers([0, 4, 9]), [1, -7])
        self.assertEqual(answers([1, 0, 0]), [1, -1])
        self.assertEqual(answers([1, 2, 1, 0]), [1, -2])
        self.assertEqual(answers([2, 1]), [1, -2])
        self.assertEqual(answers([3, 1, 1]), [1, -2])
        self.assertEqual(answers([4, 1]), [1, -2])
        self.assertEqual(answers([5, 2, 1, 1]), [1, -2])
        self.assertEqual(answers([6, 0, 0]), [1, -5])
        self.assertEqual(answers([6, 1, 1, 1, 0]), [1, -2])
        self.assertEqual(answers([7, 1, 1]), [1, -2])
        self.assertEqual(answers([8, 1]), [1, -2])
        self.assertEqual(answers([10, 1]), [1, -2])
        self.assertEqual(answers([11, 0, 4, 0, 0, 0, 0]), [1, -5])
        self.assertEqual(answers([11, 4, 0, 0, 0, 0, 0]), [1, -5])
        self.assertEqual(answers([12, 3, 4, 0, 0, 0, 0]), [1, -2])
        self.assertEqual(answers([12, 0, 0]), [1, -5])

    def test_each_call_without_places(self):
        """One row, without numbers; one turn."""
        for h in (0, 9):
            given = ask(size(0, h), turn(0), compose(0, 0), back(0), generated([0]), orbit([0], [0]), orbits([0]),
                        alike(0), group(), partner(0), program(0, [1, 11]), partner(0),
                        kept(0, relation((0,), [0], 0, [1, 0, 1])), kept(1, relation((1,))),
                        chain(relation(), relation()))
            self.assertEqual(given, [[1, 1], [], [0], [0], [1, 0], [1], [1], [1], [1, 0], [1, 0, 0], [1], [1, 1, 0],
                                     [0, 1, 0], [0, 0, 1], [1, 0, 0, 0, 0]])

    def test_each_call_on_the_new_object(self):
        given = ask(turn(0), compose(0, 0), back(0), generated([]), orbit([], [0]), orbits([]), alike(0), group(),
                    partner(0), kept(0, relation()), kept(1, relation()), kept(2, relation()),
                    chain(relation(), relation()))
        self.assertEqual(given, [[], [0], [0], [1, 0], [1], [1], [1], [1, 0], [1, 0, 0], [1, 0, 0], [1, 0, 0],
                                 [1, 0, 0], [1, 0, 0, 0, 0]])

    def test_nothing_is_changed_by_a_refusal(self):
        before = [size(2, 1), program(0, [1, 11]), program(1, [1, 3])]
        behind = [group(), alike(4), partner(3), kept(2, [0, 1, 1, -1, 0, 0]), kept(1, [0, 1, 1, -1, 0, 0])]
        expected = ask(*before, *behind)[3:]
        self.assertEqual(expected, [[2, 0, 4], [1], [1, 1, 1], [9, 0, 0], [9, 0, 0]])
        for refused, refusal in [
            (size(5, 1), -1), (size(4, 9), -7), (program(0, [1]), -1), (program(2, [0]), -2), (turn(8), -2),
            (compose(0, 8), -2), (back(-1), -2), (generated([0, 8]), -2), (orbit([0], [1, 0]), -5),
            (orbit([8], [2, 0, 0]), -2), (orbits([8, 0]), -2), (alike(8), -2), (partner(8), -2),
            (chain([0], relation()), -5), (chain(relation(), [0]), -5), (kept(3, relation()), -2),
            (kept(0, [1, 11]), -5),
        ]:
            with self.subTest(refused=refused):
                given = ask(*before, refused, *behind)
                self.assertEqual(given[3:], [[refusal]] + expected)

    def test_calls_behind_a_refusal_are_read_where_they_begin(self):
        given = ask(program(7, [9] * 30), orbit([-3] * 20, [5] * 20), generated([99] * 20), compose(7, 7), size(9, 9),
                    orbits([7] * 20), alike(12), partner(12), chain([12] * 60, [11] * 60), chain([0] * 4, [11] * 60),
                    kept(12, [12] * 60), kept(1, [12] * 60), size(1, 1), turn(1))
        self.assertEqual(given[:5], [[-1], [-5], [-2], [-2], [-1]])
        self.assertEqual(given[5:], [[-2], [-2], [-2], [-5], [-5], [-2], [-5], [3, 2], [0, 1]])

    def test_fifteen_calls(self):
        given = ask(*([size(4, 1)] + [generated([96, 144, 1]), orbit([96, 144, 1], [4, 1, 2, 3, 4])] * 7))
        self.assertEqual([len(part) for part in given], [2] + [385, 1537] * 7)
        self.assertEqual(given[1:3] * 7, given[1:])
        given = ask(*([size(4, 1), program(0, [2, 3, 4])] + [group(), partner(383)] * 6))
        self.assertEqual(given[2:], [[384] + list(range(384)), [1, 4, 0]] * 6)

    def test_asked_twice(self):
        calls = list(EXAMPLE)
        first = answers(calls)
        self.assertEqual(calls, EXAMPLE)
        second = answers(calls)
        self.assertEqual(calls, EXAMPLE)
        self.assertEqual(first, second)
        self.assertEqual(second, EXAMPLE_ANSWERS)
        calls = list(EXAMPLE_BEHIND)
        for time in range(3):
            self.assertEqual(answers(calls), EXAMPLE_BEHIND_ANSWERS)
            self.assertEqual(calls, EXAMPLE_BEHIND)

    def test_what_is_given_back_is_a_list_of_its_own(self):
        calls = list(EXAMPLE)
        first = answers(calls)
        self.assertIs(type(first), list)
        first.clear()
        self.assertEqual(answers(calls), EXAMPLE_ANSWERS)
        self.assertEqual(calls, EXAMPLE)

    def test_the_list_handed_in_is_not_changed(self):
        self.assertEqual(answers(Watched(EXAMPLE)), EXAMPLE_ANSWERS)
        self.assertEqual(answers(Watched(EXAMPLE_BEHIND)), EXAMPLE_BEHIND_ANSWERS)
        self.assertEqual(answers(Watched([1, 7, 3, 1, 18, 2, 6, 1, -4, 2, 0, 0])), [1, -1, 1, -5])

    def test_nothing_is_kept(self):
        self.assertEqual(ask(size(2, 1), turn(5)), [[9, 8], [1, 0, 0, 1]])
        self.assertEqual(ask(turn(5), turn(0)), [[-2], []])
        self.assertEqual(ask(size(2, 1), program(0, [1, 11]), program(1, [1, 14]), group())[3], [2, 0, 4])
        given = ask(size(2, 1), group(), kept(1, relation((0,), [1, 5])), orbits([]))
        self.assertEqual(given[1:], [[1, 0], [3, 6, 0], [9]])
        self.assertEqual(ask(group(), partner(0), orbits([])), [[1, 0], [1, 0, 0], [1]])

    def test_programs_do_not_change_turns(self):
        given = ask(size(2, 1), program(0, [1, 11]), turn(5), program(1, [0]), back(5))
        self.assertEqual(given, [[9, 8], [1], [1, 0, 0, 1], [0], [6]])


if __name__ == "__main__":
    unittest.main()
