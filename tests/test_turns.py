import unittest

from tests.helper import MOST, all_turns, ask, ask_sized, back, compose, do_turn, plain_row, size, turn, turn_by_effect


class TurnTest(unittest.TestCase):
    def test_example(self):
        self.assertEqual(ask(size(2, 1), turn(5))[1], [1, 0, 0, 1])

    def test_without_places(self):
        self.assertEqual(ask(turn(0), size(0, 5), turn(0)), [[], [1, 1], []])

    def test_every_turn(self):
        for n in range(5):
            told = all_turns(n)
            given = ask_sized(n, [turn(number) for number in range(len(told))])
            for number, (sources, signs) in enumerate(told):
                self.assertEqual(given[number], list(sources) + list(signs), (n, number))

    def test_no_such_turn(self):
        for n in range(5):
            last = len(all_turns(n)) - 1
            given = ask_sized(n, [turn(number) for number in (0, last, -1, last + 1, -last - 1, MOST, -MOST)])
            self.assertEqual([len(part) for part in given[:2]], [2 * n, 2 * n])
            self.assertEqual(given[2:], [[-2]] * 5, n)

    def test_new_object(self):
        self.assertEqual(ask(turn(0), turn(1), turn(-1)), [[], [-2], [-2]])


class ComposeTest(unittest.TestCase):
    def check(self, n, pairs):
        told = all_turns(n)
        by_effect = turn_by_effect(n)
        given = ask_sized(n, [compose(later, earlier) for later, earlier in pairs])
        for (later, earlier), answer in zip(pairs, given):
            expected = by_effect[do_turn(told[later], do_turn(told[earlier], plain_row(n)))]
            self.assertEqual(answer, [expected], (n, later, earlier))

    def test_example(self):
        self.assertEqual(ask(size(2, 1), compose(5, 5))[1], [3])

    def test_the_second_one_told_is_done_first(self):
        # Turn 1 gives the second number the other sign, turn 4 has both change places.
        self.assertEqual(ask(size(2, 1), compose(1, 4), compose(4, 1))[1:], [[5], [6]])

    def test_every_pair_of_up_to_three_places(self):
        for n in range(4):
            count = len(all_turns(n))
            self.check(n, [(later, earlier) for later in range(count) for earlier in range(count)])

    def test_pairs_of_four_places(self):
        self.check(4, [(later, (later * 35 + step * 61) % 384) for later in range(384) for step in range(6)])

    def test_no_such_turn(self):
        for n in range(5):
            last = len(all_turns(n)) - 1
            calls = []
            for wrong in (-1, last + 1, MOST, -MOST):
                calls += [compose(wrong, 0), compose(0, wrong), compose(wrong, wrong)]
            self.assertEqual(ask_sized(n, calls), [[-2]] * 12, n)
            self.assertEqual(ask_sized(n, [compose(last, 0), compose(0, last)]), [[last], [last]])

    def test_new_object(self):
        self.assertEqual(ask(compose(0, 0), compose(0, 1), compose(1, 0)), [[0], [-2], [-2]])


class BackTest(unittest.TestCase):
    def test_example(self):
        self.assertEqual(ask(size(2, 1), back(5))[1], [6])

    def test_every_turn_is_undone(self):
        for n in range(5):
            told = all_turns(n)
            given = ask_sized(n, [back(number) for number in range(len(told))])
            for number, answer in enumerate(given):
                self.assertEqual(len(answer), 1)
                self.assertTrue(0 <= answer[0] < len(told))
                row = plain_row(n)
                self.assertEqual(do_turn(told[answer[0]], do_turn(told[number], row)), row, (n, number))
                self.assertEqual(do_turn(told[number], do_turn(told[answer[0]], row)), row, (n, number))

    def test_no_such_turn(self):
        for n in range(5):
            last = len(all_turns(n)) - 1
            given = ask_sized(n, [back(number) for number in (-1, last + 1, MOST, -MOST)])
            self.assertEqual(given, [[-2]] * 4, n)

    def test_new_object(self):
        self.assertEqual(ask(back(0), back(1), back(-1)), [[0], [-2], [-2]])


if __name__ == "__main__":
    unittest.main()
