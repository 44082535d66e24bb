import unittest

from turngroups.programs import answer_program, answer_size
from turngroups.reader import Reader
from turngroups.setting import Setting

from tests.helper import MOST, alike, ask, group, kept, partner, program, relation, size

# By the step's number: the least and the greatest number that may stand behind it, or None.
BOUNDS = {
    0: (-99, 99), 1: (-99, 99), 2: (1, 9), 3: None, 4: None, 5: None, 6: (0, 9), 7: (0, 9), 8: (0, 9), 9: (-99, 99),
    10: None, 11: None, 12: None, 13: None, 14: None, 15: None, 16: None, 17: None,
}


def asked(numbers, which=0):
    return ask(program(which, numbers))[0]


def tell(setting, call):
    return answer_program(setting, Reader(call[1:]))


class ProgramTest(unittest.TestCase):
    def test_example(self):
        self.assertEqual(ask(program(0, [1, 11]), program(1, [1, 3])), [[1], [1]])

    def test_without_steps(self):
        self.assertEqual(asked([0]), [0])
        self.assertEqual(asked([0], 1), [0])

    def test_eight_steps_and_nine(self):
        self.assertEqual(asked([8] + [3] * 8), [8])
        self.assertEqual(asked([8] + [0, -99] * 8), [8])
        self.assertEqual(asked([9] + [3] * 9), [-1])
        self.assertEqual(asked([9] + [3] * 8), [-1])

    def test_each_number_of_steps(self):
        for count in range(9):
            with self.subTest(count=count):
                self.assertEqual(asked([count] + [4] * count, count % 2), [count])

    def test_bounds_of_each_step(self):
        for kind, bounds in BOUNDS.items():
            with self.subTest(kind=kind):
                if bounds is None:
                    self.assertEqual(asked([1, kind]), [1])
                    self.assertEqual(asked([1, kind, 1]), [-1])
                    self.assertEqual(asked([2, kind, 17]), [2])
                    continue
                least, greatest = bounds
                for amount in range(-120, 121):
                    self.assertEqual(asked([1, kind, amount]), [1] if least <= amount <= greatest else [-1], amount)
                for amount in (-MOST, MOST):
                    self.assertEqual(asked([1, kind, amount]), [-1])
                self.assertEqual(asked([1, kind]), [-1])
                self.assertEqual(asked([1, kind, least, greatest]), [-1])
                self.assertEqual(asked([2, kind, greatest, 17]), [2])

    def test_bounds_behind_other_steps(self):
        self.assertEqual(asked([3, 2, 1, 4, 2, 9]), [3])
        self.assertEqual(asked([3, 2, 1, 4, 2, 0]), [-1])
        self.assertEqual(asked([3, 2, 1, 4, 2, 10]), [-1])
        self.assertEqual(asked([3, 2, 0, 4, 2, 9]), [-1])

    def test_no_such_step(self):
        for kind in (-1, 18, 19, MOST, -MOST):
            with self.subTest(kind=kind):
                self.assertEqual(asked([1, kind]), [-1])
                self.assertEqual(asked([1, kind, 1]), [-1])
                self.assertEqual(asked([2, 3, kind]), [-1])

    def test_count_of_steps_out_of_bounds(self):
        for count in (-1, 9, 30, MOST, -MOST):
            with self.subTest(count=count):
                self.assertEqual(asked([count]), [-1])
                self.assertEqual(asked([count, 3]), [-1])

    def test_too_short(self):
        self.assertEqual(asked([]), [-1])
        self.assertEqual(asked([1]), [-1])
        self.assertEqual(asked([2, 3]), [-1])
        self.assertEqual(asked([2, 3, 0]), [-1])
        self.assertEqual(asked([8] + [3] * 7), [-1])

    def test_something_behind(self):
        self.assertEqual(asked([0, 0]), [-1])
        self.assertEqual(asked([1, 3, 3]), [-1])
        self.assertEqual(asked([1, 0, 5, 3]), [-1])
        self.assertEqual(asked([8] + [3] * 9), [-1])
        self.assertEqual(asked([8] + [0, 1] * 8 + [0] * 13), [-1])

    def test_which(self):
        for which in (0, 1):
            self.assertEqual(asked([1, 3], which), [1])
        for which in (-1, 2, 3, MOST, -MOST):
            with self.subTest(which=which):
                self.assertEqual(asked([1, 3], which), [-2])
                self.assertEqual(asked([0], which), [-2])

    def test_refusal_of_the_list_comes_ahead_of_which(self):
        for numbers in ([], [1], [0, 0], [9], [1, 18], [1, 2, 0]):
            with self.subTest(numbers=numbers):
                self.assertEqual(asked(numbers, 2), [-1])
                self.assertEqual(asked(numbers, -1), [-1])


class HeldTest(unittest.TestCase):
    """What the object itself holds."""

    def test_new(self):
        setting = Setting()
        self.assertEqual((setting.places, setting.height), (0, 0))
        self.assertEqual(list(setting.programs), [(), ()])

    def test_it_is_this_program_from_now_on(self):
        setting = Setting()
        self.assertEqual(tell(setting, program(0, [2, 0, -7, 11])), [2])
        self.assertEqual(list(setting.programs), [((0, -7), (11, 0)), ()])
        self.assertEqual(tell(setting, program(1, [1, 2, 9])), [1])
        self.assertEqual(list(setting.programs), [((0, -7), (11, 0)), ((2, 9),)])
        self.assertEqual(tell(setting, program(0, [0])), [0])
        self.assertEqual(list(setting.programs), [(), ((2, 9),)])

    def test_a_refused_program_changes_nothing(self):
        setting = Setting()
        tell(setting, program(0, [1, 3]))
        tell(setting, program(1, [1, 4]))
        before = [((3, 0),), ((4, 0),)]
        for which, numbers, refusal in [
            (0, [], -1), (0, [2, 5], -1), (1, [1, 5, 5], -1), (1, [1, 2, 0], -1), (2, [1, 5], -2), (-1, [1, 5], -2),
            (-2, [1, 5], -2),
        ]:
            with self.subTest(which=which, numbers=numbers):
                self.assertEqual(tell(setting, program(which, numbers)), [refusal])
                self.assertEqual(list(setting.programs), before)

    def test_size_is_held(self):
        setting = Setting()
        self.assertEqual(answer_size(setting, Reader(size(3, 2)[1:])), [125, 48])
        self.assertEqual((setting.places, setting.height), (3, 2))
        for n, h, refusal in [(5, 1, -1), (1, 10, -1), (4, 3, -7)]:
            self.assertEqual(answer_size(setting, Reader(size(n, h)[1:])), [refusal])
            self.assertEqual((setting.places, setting.height), (3, 2))

    def test_size_and_programs_leave_each_other(self):
        setting = Setting()
        tell(setting, program(1, [1, 4]))
        answer_size(setting, Reader(size(2, 1)[1:]))
        self.assertEqual(list(setting.programs), [(), ((4, 0),)])
        tell(setting, program(0, [1, 3]))
        self.assertEqual((setting.places, setting.height), (2, 1))


class FromNowOnTest(unittest.TestCase):
    """What the object holds, by the answers of the calls that run the programs."""

    # At all rows with the other sign: the sum has the other sign then, without its sign a number stays.
    NUMBERS = relation((0,), [1, 1, -1])

    def test_it_is_this_program_from_now_on(self):
        first, second, both = kept(0, self.NUMBERS), kept(1, self.NUMBERS), kept(2, self.NUMBERS)
        given = ask(size(2, 1), first, program(0, [1, 11]), first, second, program(1, [1, 3]), first, second, both,
                    program(0, [0]), first, second, both)
        self.assertEqual(given, [[9, 8], [1, 8, 0], [1], [3, 6, 0], [1, 8, 0], [1], [3, 6, 0], [9, 0, 0], [9, 0, 0],
                                 [0], [1, 8, 0], [9, 0, 0], [9, 0, 0]])

    def test_a_refused_program_changes_nothing(self):
        for which, numbers, refusal in [
            (0, [], -1), (0, [2, 5], -1), (1, [1, 5, 5], -1), (1, [1, 2, 0], -1), (2, [1, 5], -2), (-1, [1, 5], -2),
            (-2, [1, 5], -2), (0, [9] + [3] * 9, -1),
        ]:
            with self.subTest(which=which, numbers=numbers):
                given = ask(size(2, 1), program(0, [1, 11]), program(1, [1, 3]), program(which, numbers),
                            kept(0, self.NUMBERS), kept(1, self.NUMBERS), group(), alike(4), partner(3))
                self.assertEqual(given[3:], [[refusal], [3, 6, 0], [9, 0, 0], [2, 0, 4], [1], [1, 1, 1]])

    def test_another_size_leaves_the_programs(self):
        given = ask(program(0, [1, 11]), size(1, 9), kept(0, self.NUMBERS), size(2, 1), group(), size(4, 9), group())
        self.assertEqual(given[1:], [[19, 2], [1, 18, 0], [9, 8], [2, 0, 4], [-7], [2, 0, 4]])


if __name__ == "__main__":
    unittest.main()
