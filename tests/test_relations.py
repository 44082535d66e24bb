import unittest

from tests.helper import MOST, all_rows, ask, chain, count_kept, do_stand, is_so, kept, program, relation, run, size

CONDITIONS = [(0,), (1,), (2,), (3,), (4,)] + [(5, k) for k in range(10)]
SIZES = [(0, 0), (1, 2), (2, 1), (3, 1), (4, 0), (4, 1)]
CUBED = [3, 1, 99, 1, 99, 1, 99]
EMPTY = [1, 7, 0]

TURNINGS = [
    [0], [1, 1, -1], [1, 0, 1], [1, 4], [1, 5], [1, 6, 1], [1, 7, 1], [1, 10], [1, 11], [1, 17], [2, 3, 4], EMPTY,
]
TOLD = [[0], [1, 11], [1, 3], [1, 4], [1, 10], [1, 16], [2, 9, 0, 17], CUBED]

# As many steps as there may be: as many numbers as there may be, and as few.
LONG = [8, 0, -99, 1, 99, 2, 1, 6, 0, 7, 9, 8, 9, 9, -99, 0, 99]
SHORT_STEPS = [8, 3, 4, 5, 10, 11, 12, 13, 14]

WHOLE = [
    relation(), relation((5, 3), [1, 1, -1], 6, [1, 0, 99]), relation((5, 0), LONG, 0, LONG),
    relation((4,), SHORT_STEPS, 3, [2, 2, 9, 17]),
]

# Lists that aren't whole a relation.
NOT_WHOLE = [
    [], [0], [0, 0], [0, 0, 0], [5], [5, 3], [5, 3, 0, 0], [0, 0, 0, 0, 0], [0, 0, 0, 0, -1], [0] * 60,
    # The condition, and its k.
    [-1, 0, 0, 0], [6, 0, 0, 0], [MOST, 0, 0, 0], [-MOST, 0, 0, 0], [5, -1, 0, 0, 0], [5, 10, 0, 0, 0],
    [5, MOST, 0, 0, 0], [5, -MOST, 0, 0, 0],
    # How many steps, of either turning.
    [0, -1, 0, 0], [0, 9, 0, 0], [0, 9] + [3] * 9 + [0, 0], [0, MOST, 0, 0], [0, -MOST, 0, 0],
    [0, 0, 0, -1], [0, 0, 0, 9], [0, 0, 0, 9] + [3] * 9, [0, 0, 0, MOST], [0, 0, 0, -MOST],
    # The steps and their numbers.
    [0, 1, 18, 0, 0], [0, 1, -1, 0, 0], [0, 1, 0, 100, 0, 0], [0, 1, 0, -100, 0, 0], [0, 1, 2, 0, 0, 0],
    [0, 1, 2, 10, 0, 0], [0, 1, 6, -1, 0, 0], [0, 1, 6, 10, 0, 0], [0, 1, MOST, 0, 0], [0, 1, 1, MOST, 0, 0],
    [0, 0, 0, 1, 18], [0, 0, 0, 1, -1], [0, 0, 0, 1, 1, 100], [0, 0, 0, 1, 9, -100], [0, 0, 0, 1, 2, 0],
    [0, 0, 0, 1, 2, 10], [0, 0, 0, 1, 7, 10], [0, 0, 0, 1, 8, -1], [0, 0, 0, 1, -MOST],
    # How outputs stand.
    [0, 0, -1, 0], [0, 0, 7, 0], [0, 0, MOST, 0], [0, 0, -MOST, 0], [5, 9, 1, 4, 7, 1, 4],
]


def keeping(n, h, first, numbers, which=0, second=(0,)):
    given = ask(size(n, h), program(0, first), program(1, second), kept(which, numbers))
    return given[3]


class KeptTest(unittest.TestCase):
    def test_example(self):
        numbers = [0, 1, 1, -1, 0, 0]
        given = ask(size(2, 1), program(0, [1, 11]), program(1, [1, 3]), kept(2, numbers), kept(0, numbers))
        self.assertEqual(given[3:], [[9, 0, 0], [3, 6, 0]])

    def test_each_condition(self):
        # Without turnings nothing is broken: all rows but those of the condition are off.
        for condition, n, h, so in [
            ((0,), 2, 1, 9), ((0,), 0, 0, 1),
            ((1,), 2, 1, 9), ((1,), 0, 0, 0), ((1,), 1, 0, 1),
            # Neighbours may be alike.
            ((2,), 2, 1, 6), ((2,), 3, 1, 10), ((2,), 1, 9, 19), ((2,), 0, 0, 1), ((2,), 4, 0, 1),
            # 0 isn't below 0.
            ((3,), 1, 9, 10), ((3,), 2, 1, 4), ((3,), 0, 0, 1), ((3,), 4, 0, 1),
            ((4,), 2, 1, 6), ((4,), 3, 1, 6), ((4,), 4, 1, 0), ((4,), 1, 9, 19), ((4,), 0, 0, 1), ((4,), 2, 0, 0),
            ((5, 0), 0, 0, 1), ((5, 1), 0, 0, 0), ((5, 2), 2, 1, 9), ((5, 3), 2, 1, 0), ((5, 1), 2, 1, 9),
            ((5, 4), 4, 1, 81), ((5, 9), 4, 1, 0), ((5, 0), 4, 1, 81),
        ]:
            with self.subTest(condition=condition, n=n, h=h):
                rows = len(all_rows(n, h))
                self.assertEqual(keeping(n, h, [0], relation(condition)), [so, 0, rows - so])
                # The same rows, where it's broken.
                self.assertEqual(keeping(n, h, [1, 14], relation(condition, [0], 0, [1, 0, 1])), [0, so, rows - so])

    def test_the_condition_is_asked_of_the_input(self):
        # Not of what's turned, and not of the outcome.
        self.assertEqual(keeping(1, 9, [0], relation((3,), [1, 1, -1], 0, [1, 1, -1])), [10, 0, 9])
        self.assertEqual(keeping(1, 9, [1, 1, -1], relation((3,))), [10, 0, 9])
        self.assertEqual(keeping(2, 1, EMPTY, relation((1,))), [9, 0, 0])
        self.assertEqual(keeping(2, 1, [0], relation((1,), EMPTY, 0, EMPTY)), [9, 0, 0])
        self.assertEqual(keeping(2, 1, [1, 4], relation((2,))), [6, 0, 3])
        self.assertEqual(keeping(2, 1, [1, 17], relation((5, 3))), [0, 0, 9])

    def test_each_way_outputs_stand(self):
        # The left side is the row turned, the right one the row: size (2, 1), programs without steps.
        for stand, before, expected in [
            # Turned round: equal only where both are alike.
            (0, [1, 5], [3, 6, 0]), (1, [1, 5], [9, 0, 0]), (2, [1, 5], [9, 0, 0]), (3, [1, 5], [3, 6, 0]),
            (4, [1, 5], [3, 6, 0]), (5, [1, 5], [3, 6, 0]), (6, [1, 5], [9, 0, 0]),
            # Each number once: shorter, if both are alike.
            (0, [1, 10], [6, 3, 0]), (1, [1, 10], [6, 3, 0]), (2, [1, 10], [9, 0, 0]), (3, [1, 10], [6, 3, 0]),
            (4, [1, 10], [6, 3, 0]), (5, [1, 10], [9, 0, 0]), (6, [1, 10], [6, 3, 0]),
            # One less.
            (0, [1, 0, -1], [0, 9, 0]), (1, [1, 0, -1], [0, 9, 0]), (2, [1, 0, -1], [0, 9, 0]),
            (3, [1, 0, -1], [9, 0, 0]), (4, [1, 0, -1], [0, 9, 0]), (5, [1, 0, -1], [0, 9, 0]),
            (6, [1, 0, -1], [9, 0, 0]),
            # One more.
            (3, [1, 0, 1], [0, 9, 0]), (4, [1, 0, 1], [9, 0, 0]),
            # Twice: longer; the first one doesn't begin with the second one, but the other way.
            (0, [1, 17], [0, 9, 0]), (1, [1, 17], [0, 9, 0]), (2, [1, 17], [9, 0, 0]), (3, [1, 17], [0, 9, 0]),
            (4, [1, 17], [0, 9, 0]), (5, [1, 17], [0, 9, 0]), (6, [1, 17], [0, 9, 0]),
            # No numbers.
            (0, EMPTY, [0, 9, 0]), (1, EMPTY, [0, 9, 0]), (2, EMPTY, [0, 9, 0]), (3, EMPTY, [0, 9, 0]),
            (4, EMPTY, [0, 9, 0]), (5, EMPTY, [9, 0, 0]), (6, EMPTY, [0, 9, 0]),
            # The first number alone begins the row, the second one alone only where it's the first one too.
            (5, [1, 7, 1], [9, 0, 0]), (5, [1, 8, 1], [3, 6, 0]),
            # Without sign: at least the row, at each place.
            (4, [1, 3], [9, 0, 0]), (3, [1, 3], [4, 5, 0]),
        ]:
            with self.subTest(stand=stand, before=before):
                self.assertEqual(keeping(2, 1, [0], relation((0,), before, stand)), expected)

    def test_the_left_one_stands_to_the_right_one(self):
        # The same turnings, now of the output: what was most is least, and the row begins what's twice.
        for stand, behind, expected in [
            (3, [1, 0, -1], [0, 9, 0]), (4, [1, 0, -1], [9, 0, 0]),
            (3, [1, 0, 1], [9, 0, 0]), (4, [1, 0, 1], [0, 9, 0]),
            (5, [1, 17], [9, 0, 0]), (5, EMPTY, [0, 9, 0]), (5, [1, 7, 1], [0, 9, 0]), (2, EMPTY, [0, 9, 0]),
        ]:
            with self.subTest(stand=stand, behind=behind):
                self.assertEqual(keeping(2, 1, [0], relation((0,), [0], stand, behind)), expected)

    def test_rows_without_numbers_stand(self):
        for stand in range(7):
            self.assertEqual(ask(kept(0, relation((0,), [0], stand)))[0], [1, 0, 0])
            self.assertEqual(keeping(2, 1, EMPTY, relation((0,), [1, 5], stand, [1, 4])), [9, 0, 0])

    def test_bag_and_numbers(self):
        # A number more often: the same numbers, but not the same bag, though as many.
        for stand, expected in [(0, [0, 6, 3]), (1, [0, 6, 3]), (2, [6, 0, 3]), (6, [6, 0, 3])]:
            numbers = relation((4,), [3, 17, 7, 3, 4], stand, [3, 17, 8, 1, 4])
            self.assertEqual(keeping(2, 1, [0], numbers), expected)

    def test_the_sides(self):
        # The sum of the turned row, and the sum turned.
        self.assertEqual(keeping(2, 1, [1, 11], relation((0,), [1, 1, 3], 0, [1, 1, 3])), [9, 0, 0])
        self.assertEqual(keeping(2, 1, [1, 11], relation((0,), [1, 0, 1], 0, [1, 0, 2])), [9, 0, 0])
        self.assertEqual(keeping(2, 1, [1, 11], relation((0,), [1, 0, 1], 0, [1, 0, 1])), [0, 9, 0])
        # Adding ahead of the program isn't adding behind it.
        self.assertEqual(keeping(1, 9, [1, 1, 2], relation((0,), [1, 0, 1], 0, [1, 0, 2])), [19, 0, 0])
        self.assertEqual(keeping(1, 9, [1, 1, 2], relation((0,), [1, 0, 2], 0, [1, 0, 1])), [0, 19, 0])

    def test_off_where_a_run_is_beyond(self):
        # Of the program on the input, at -2 and 2: what's turned is always 0.
        self.assertEqual(keeping(1, 2, CUBED, relation((0,), [1, 1, 0])), [1, 2, 2])
        self.assertEqual(keeping(1, 2, CUBED, relation((0,), [1, 1, 0], 0, [1, 1, 0])), [3, 0, 2])
        # Of the input's turning, at -2 and 2: the program would go back to 0.
        self.assertEqual(keeping(1, 2, [1, 1, 0], relation((0,), CUBED)), [3, 0, 2])
        # Of the program on what's turned, at -1 and 1: the row itself is not beyond.
        self.assertEqual(keeping(1, 1, CUBED, relation((0,), [1, 1, 2], 0, [1, 1, 0])), [1, 0, 2])
        # Of the output's turning.
        self.assertEqual(keeping(1, 2, [0], relation((0,), [0], 0, CUBED)), [1, 2, 2])
        self.assertEqual(keeping(1, 2, [0], relation((0,), EMPTY, 0, [4] + CUBED[1:] + [7, 0])), [3, 0, 2])

    def test_off_by_the_condition_or_a_run(self):
        # -2 by both, -1 by the condition, 2 by the run.
        self.assertEqual(keeping(1, 2, CUBED, relation((3,), [1, 3])), [2, 0, 3])

    def test_which(self):
        numbers = relation((0,), [1, 1, -1])
        # The sum changes its sign, the abs doesn't.
        given = ask(size(2, 1), program(0, [1, 11]), program(1, [1, 3]), *[kept(which, numbers) for which in range(3)])
        self.assertEqual(given[3:], [[3, 6, 0], [9, 0, 0], [9, 0, 0]])

    def test_both_in_their_order(self):
        # First 1 more, then times 2; a row of one more makes it 2 more.
        first, second = [1, 0, 1], [1, 1, 2]
        self.assertEqual(keeping(1, 9, first, relation((0,), [1, 0, 1], 0, [1, 0, 2]), 2, second), [19, 0, 0])
        # -x of the input: 2 less 2x, to -(2 + 2x), 4 more.
        self.assertEqual(keeping(1, 9, first, relation((0,), [1, 1, -1], 0, [2, 1, -1, 0, 4]), 2, second), [19, 0, 0])
        # The other way round it's 1 less 2x, to -(1 + 2x), 2 more.
        self.assertEqual(keeping(1, 9, second, relation((0,), [1, 1, -1], 0, [2, 1, -1, 0, 4]), 2, first), [0, 19, 0])
        self.assertEqual(keeping(1, 9, second, relation((0,), [1, 1, -1], 0, [2, 1, -1, 0, 2]), 2, first), [19, 0, 0])

    def test_both_where_one_is_beyond(self):
        # The first one is beyond at -2 and 2, though the second one would make 0 of it.
        self.assertEqual(keeping(1, 2, CUBED, relation(), 2, [1, 1, 0]), [3, 0, 2])
        self.assertEqual(keeping(1, 2, [1, 1, 0], relation(), 2, CUBED), [5, 0, 0])
        self.assertEqual(keeping(1, 2, [1, 1, 2], relation(), 2, CUBED), [1, 0, 4])
        self.assertEqual(keeping(1, 2, [8] + [0, 1] * 8, relation((0,), [1, 1, 0], 0, [1, 1, 0]), 2, [8] + [0, -1] * 8),
                         [5, 0, 0])

    def test_the_other_programs_run_does_not_count(self):
        self.assertEqual(keeping(1, 2, CUBED, relation(), 1, [0]), [5, 0, 0])
        self.assertEqual(keeping(1, 2, [0], relation(), 0, CUBED), [5, 0, 0])

    def test_programs_without_steps(self):
        for which in range(3):
            self.assertEqual(ask(size(2, 1), kept(which, relation((0,), [1, 5])))[1], [3, 6, 0])

    def test_a_great_number_of_relations(self):
        for n, h in SIZES:
            rows = all_rows(n, h)
            for place, before in enumerate(TURNINGS):
                for stand in range(7):
                    first = TOLD[(place + stand) % len(TOLD)]
                    second = TOLD[(place * 3 + stand) % len(TOLD)]
                    behind = TURNINGS[(place * 5 + stand * 3) % len(TURNINGS)]
                    condition = CONDITIONS[(place * 7 + stand) % len(CONDITIONS)]
                    told = (condition, before, stand, behind)
                    numbers = relation(*told)
                    given = ask(size(n, h), program(0, first), program(1, second),
                                kept(0, numbers), kept(1, numbers), kept(2, numbers))[3:]
                    expected = [count_kept(programs, rows, *told) for programs in ([first], [second], [first, second])]
                    self.assertEqual(given, expected, (n, h, first, second, told))

    def test_each_condition_and_each_stand(self):
        rows = all_rows(3, 1)
        for condition in CONDITIONS:
            for stand in range(7):
                for before, behind in [([1, 10], [1, 3]), ([1, 3], [0]), ([0], [1, 4]), ([1, 6, 1], [1, 5])]:
                    expected = count_kept([[0]], rows, condition, before, stand, behind)
                    self.assertEqual(keeping(3, 1, [0], relation(condition, before, stand, behind)), expected)

    def test_no_such_program(self):
        for which in (-1, 3, -2, -3, MOST, -MOST):
            self.assertEqual(ask(kept(which, relation())), [[-2]], which)

    def test_not_whole(self):
        for numbers in NOT_WHOLE:
            for which in range(3):
                self.assertEqual(ask(kept(which, numbers)), [[-5]], numbers)

    def test_whole(self):
        for numbers in WHOLE:
            self.assertEqual(sum(ask(kept(0, numbers))[0]), 1, numbers)

    def test_cut_off_or_gone_on(self):
        for numbers in WHOLE:
            for length in range(len(numbers)):
                self.assertEqual(ask(kept(0, numbers[:length])), [[-5]], numbers[:length])
            for more in ([0], [-1], [3, 3], [0] * (60 - len(numbers))):
                self.assertEqual(ask(kept(0, numbers + more)), [[-5]], numbers + more)

    def test_which_comes_ahead_of_the_list(self):
        for numbers in NOT_WHOLE:
            self.assertEqual(ask(kept(3, numbers), kept(-1, numbers)), [[-2], [-2]], numbers)

    def test_nothing_is_changed_by_it(self):
        numbers = relation((0,), [1, 1, -1])
        given = ask(size(2, 1), program(0, [1, 11]), kept(0, numbers), kept(3, numbers), kept(0, [7]), kept(2, LONG),
                    kept(0, numbers))
        self.assertEqual(given[2:], [[3, 6, 0], [-2], [-5], [-5], [3, 6, 0]])

    def test_new_object(self):
        self.assertEqual(ask(kept(0, relation()), kept(1, relation((1,))), kept(2, relation((0,), [1, 14]))),
                         [[1, 0, 0], [0, 0, 1], [0, 1, 0]])


class ChainTest(unittest.TestCase):
    def test_example(self):
        self.assertEqual(ask(chain([0, 1, 1, -1, 0, 1, 1, -1], [0, 1, 1, -1, 0, 0])), [[1, 0, 1, 1, -1, 0, 0]])

    def test_without_turnings(self):
        self.assertEqual(ask(chain(relation(), relation())), [[1, 0, 0, 0, 0]])

    def test_each_condition_of_the_first_one(self):
        for condition in CONDITIONS:
            given = ask(chain(relation(condition, [1, 5], 0, [1, 4]), relation((0,), [1, 4], 0, [2, 0, -7, 17])))
            self.assertEqual(given, [[1] + list(condition) + [1, 5, 0, 2, 0, -7, 17]])

    def test_the_longest(self):
        given = ask(chain(relation((5, 9), LONG, 0, LONG), relation((0,), LONG, 0, LONG)))
        self.assertEqual(given, [[1, 5, 9] + LONG + [0] + LONG])
        given = ask(chain(relation((5, 0), SHORT_STEPS, 0, LONG), relation((0,), LONG, 0, SHORT_STEPS)))
        self.assertEqual(given, [[1, 5, 0] + SHORT_STEPS + [0] + SHORT_STEPS])

    def test_each_step_is_told_as_it_was(self):
        for step in [[0, -99], [1, 99], [2, 1], [3], [4], [5], [6, 0], [7, 9], [8, 0], [9, -1], [10], [11], [12], [13],
                     [14], [15], [16], [17]]:
            numbers = [1] + step
            given = ask(chain(relation((0,), numbers, 0, [0]), relation((0,), [0], 0, [2] + step + step)))
            self.assertEqual(given, [[1, 0] + numbers + [0, 2] + step + step])

    def test_outputs_do_not_stand_equal(self):
        for stand in range(1, 7):
            given = ask(chain(relation((0,), [0], stand), relation()), chain(relation(), relation((0,), [0], stand)),
                        chain(relation((0,), [0], stand), relation((0,), [0], stand)))
            self.assertEqual(given, [[0]] * 3, stand)

    def test_turnings_differ(self):
        for behind, before in [
            ([0], [1, 3]), ([1, 3], [0]), ([1, 3], [1, 4]), ([1, 0, 1], [1, 0, 2]), ([1, 0, 1], [1, 1, 1]),
            ([1, 3], [2, 3, 3]), ([2, 3, 4], [2, 4, 3]), ([1, 7, 0], [1, 8, 0]), ([2, 3, 4], [1, 3]),
            # What they make is the same, but the programs aren't.
            ([0], [1, 0, 0]), ([1, 3], [2, 3, 3]), ([1, 1, 1], [1, 0, 0]),
        ]:
            given = ask(chain(relation((0,), [0], 0, behind), relation((0,), before)))
            self.assertEqual(given, [[0]], (behind, before))

    def test_the_other_turnings_are_not_asked(self):
        given = ask(chain(relation((0,), [1, 3], 0, [1, 4]), relation((0,), [1, 4], 0, [1, 5])),
                    chain(relation((0,), [1, 4], 0, [1, 3]), relation((0,), [1, 5], 0, [1, 4])))
        self.assertEqual(given, [[1, 0, 1, 3, 0, 1, 5], [0]])

    def test_the_second_one_has_a_condition(self):
        for condition in CONDITIONS[1:]:
            given = ask(chain(relation(), relation(condition)), chain(relation(condition), relation(condition)))
            self.assertEqual(given, [[0], [0]], condition)

    def test_size_and_programs_are_not_asked(self):
        numbers = [0, 1, 1, -1, 0, 1, 1, -1]
        given = ask(size(3, 1), program(0, CUBED), program(1, [1, 17]), chain(numbers, numbers), size(0, 0),
                    chain(numbers, numbers))
        self.assertEqual((given[3], given[5]), ([1] + numbers, [1] + numbers))

    def test_not_whole(self):
        for numbers in NOT_WHOLE:
            given = ask(chain(numbers, relation()), chain(relation(), numbers), chain(numbers, numbers))
            self.assertEqual(given, [[-5]] * 3, numbers)

    def test_cut_off_or_gone_on(self):
        for numbers in WHOLE:
            for wrong in [numbers[:length] for length in range(len(numbers))] + [numbers + [0], numbers + [0, 0]]:
                given = ask(chain(wrong, relation()), chain(relation(), wrong))
                self.assertEqual(given, [[-5]] * 2, wrong)

    def test_refused_also_where_it_would_be_0(self):
        self.assertEqual(ask(chain(relation((0,), [0], 3), [0]), chain([0], relation((1,)))), [[-5], [-5]])

    def test_kept_behind_one_another(self):
        """What the words say of the chained relation: kept wherever both are."""
        first, second = [1, 11], [1, 3]
        one = ((2,), [1, 1, -1], 0, [1, 1, -1])
        two = ((0,), [1, 1, -1], 0, [0])
        answer = ask(chain(relation(*one), relation(*two)))[0]
        self.assertEqual(answer, [1, 2, 1, 1, -1, 0, 0])
        given = ask(size(3, 1), program(0, first), program(1, second), kept(0, relation(*one)), kept(2, answer[1:]))
        self.assertEqual(given[3:], [[10, 0, 17], [10, 0, 17]])

    def test_new_object(self):
        self.assertEqual(ask(chain([], []), chain(relation(), relation((1,))), chain(relation(), relation())),
                         [[-5], [0], [1, 0, 0, 0, 0]])


class HelperTest(unittest.TestCase):
    """The words told in another way, at some rows written out."""

    def test_conditions(self):
        row = (1, 1, -2)
        self.assertEqual([is_so(condition, row) for condition in CONDITIONS[:5]], [True, True, False, False, False])
        self.assertEqual([is_so((5, k), row) for k in (0, 3, 4)], [True, True, False])

    def test_stands(self):
        self.assertEqual([do_stand(stand, (1, 2), (2, 1, 2)) for stand in range(7)],
                         [False, False, True, False, False, False, False])
        self.assertEqual([do_stand(stand, (1, 2), (1, 3)) for stand in range(7)],
                         [False, False, False, True, False, False, True])

    def test_run(self):
        self.assertEqual(run([2, 6, 1, 15], (5, 1, 2)), (1, 3))
        self.assertEqual(run(CUBED, (2,)), None)


if __name__ == "__main__":
    unittest.main()
