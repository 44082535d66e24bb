import unittest

from turngroups.programs import answers

from tests.helper import ask, back, compose, generated, orbit, program, size, turn

EXAMPLE = [
    0, 2, 1,
    2, 5,
    3, 5, 5,
    4, 5,
    5, 1, 5,
    6, 1, 5, 3, 2, 1, 2,
    1, 0, 2, 1, 11,
    1, 1, 2, 1, 3,
]
EXAMPLE_ANSWERS = [
    2, 9, 8,
    4, 1, 0, 0, 1,
    1, 3,
    1, 6,
    5, 4, 0, 3, 5, 6,
    9, 4, -2, 1, -1, -2, 1, 2, 2, -1,
    1, 1,
    1, 1,
]


def refuse(*given):
    raise AssertionError("the list handed in is changed")


class Watched(list):
    """A list that doesn't let itself be changed, not for a while either."""

    append = extend = insert = pop = remove = clear = reverse = sort = refuse
    __setitem__ = __delitem__ = __iadd__ = __imul__ = refuse


class AnswersTest(unittest.TestCase):
    def test_example(self):
        self.assertEqual(answers(list(EXAMPLE)), EXAMPLE_ANSWERS)

    def test_example_call_by_call(self):
        first = size(2, 1)
        for call, expected in [
            (turn(5), [1, 0, 0, 1]), (compose(5, 5), [3]), (back(5), [6]), (generated([5]), [4, 0, 3, 5, 6]),
            (orbit([5], [2, 1, 2]), [4, -2, 1, -1, -2, 1, 2, 2, -1]), (program(0, [1, 11]), [1]),
        ]:
            with self.subTest(call=call):
                self.assertEqual(ask(first, call), [[9, 8], expected])

    def test_an_answer_without_numbers(self):
        self.assertEqual(answers([2, 0]), [0])
        self.assertEqual(answers([2, 0, 4, 0, 2, 0]), [0, 1, 0, 0])

    def test_a_refusal_is_its_number_alone(self):
        self.assertEqual(answers([0, 5, 0]), [1, -1])
        self.assertEqual(answers([0, 4, 9]), [1, -7])
        self.assertEqual(answers([1, 0, 0]), [1, -1])
        self.assertEqual(answers([1, 2, 1, 0]), [1, -2])
        self.assertEqual(answers([2, 1]), [1, -2])
        self.assertEqual(answers([3, 1, 1]), [1, -2])
        self.assertEqual(answers([4, 1]), [1, -2])
        self.assertEqual(answers([5, 2, 1, 1]), [1, -2])
        self.assertEqual(answers([6, 0, 0]), [1, -5])
        self.assertEqual(answers([6, 1, 1, 1, 0]), [1, -2])

    def test_calls_behind_a_refusal_are_read_where_they_begin(self):
        given = ask(program(7, [9] * 30), orbit([-3] * 20, [5] * 20), generated([99] * 20), compose(7, 7), size(9, 9),
                    size(1, 1), turn(1))
        self.assertEqual(given, [[-1], [-5], [-2], [-2], [-1], [3, 2], [0, 1]])

    def test_fifteen_calls(self):
        given = ask(*([size(4, 1)] + [generated([96, 144, 1]), orbit([96, 144, 1], [4, 1, 2, 3, 4])] * 7))
        self.assertEqual([len(part) for part in given], [2] + [385, 1537] * 7)
        self.assertEqual(given[1:3] * 7, given[1:])

    def test_asked_twice(self):
        calls = list(EXAMPLE)
        first = answers(calls)
        self.assertEqual(calls, EXAMPLE)
        second = answers(calls)
        self.assertEqual(calls, EXAMPLE)
        self.assertEqual(first, second)
        self.assertEqual(second, EXAMPLE_ANSWERS)

    def test_what_is_given_back_is_a_list_of_its_own(self):
        calls = list(EXAMPLE)
        first = answers(calls)
        self.assertIs(type(first), list)
        first.clear()
        self.assertEqual(answers(calls), EXAMPLE_ANSWERS)
        self.assertEqual(calls, EXAMPLE)

    def test_the_list_handed_in_is_not_changed(self):
        self.assertEqual(answers(Watched(EXAMPLE)), EXAMPLE_ANSWERS)
        self.assertEqual(answers(Watched([1, 7, 3, 1, 18, 2, 6, 1, -4, 2, 0, 0])), [1, -1, 1, -5])

    def test_nothing_is_kept(self):
        self.assertEqual(ask(size(2, 1), turn(5)), [[9, 8], [1, 0, 0, 1]])
        self.assertEqual(ask(turn(5), turn(0)), [[-2], []])

    def test_programs_do_not_change_turns(self):
        given = ask(size(2, 1), program(0, [1, 11]), turn(5), program(1, [0]), back(5))
        self.assertEqual(given, [[9, 8], [1], [1, 0, 0, 1], [0], [6]])


if __name__ == "__main__":
    unittest.main()
