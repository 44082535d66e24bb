import unittest

from tests.helper import MOST, ask, compose, generated, orbit, size, turn

TURNS = [1, 2, 8, 48, 384]


class SizeTest(unittest.TestCase):
    def test_example(self):
        self.assertEqual(ask(size(2, 1)), [[9, 8]])

    def test_every_size(self):
        for n in range(-2, 7):
            for h in range(-2, 12):
                with self.subTest(n=n, h=h):
                    if not (0 <= n <= 4 and 0 <= h <= 9):
                        expected = [-1]
                    elif (2 * h + 1) ** n > 130:
                        expected = [-7]
                    else:
                        expected = [(2 * h + 1) ** n, TURNS[n]]
                    self.assertEqual(ask(size(n, h)), [expected])

    def test_edges_written_out(self):
        for n, h, expected in [
            (0, 0, [1, 1]), (0, 9, [1, 1]), (1, 0, [1, 2]), (1, 9, [19, 2]),
            (2, 5, [121, 8]), (2, 6, [-7]), (3, 2, [125, 48]), (3, 3, [-7]),
            (4, 0, [1, 384]), (4, 1, [81, 384]), (4, 2, [-7]),
        ]:
            with self.subTest(n=n, h=h):
                self.assertEqual(ask(size(n, h)), [expected])

    def test_refusal_of_numbers_comes_ahead_of_too_many_rows(self):
        for n, h in [(4, 10), (5, 9), (5, 2), (MOST, 9), (4, MOST), (MOST, MOST)]:
            with self.subTest(n=n, h=h):
                self.assertEqual(ask(size(n, h)), [[-1]])

    def test_numbers_far_out(self):
        for n, h in [(-MOST, 0), (MOST, 0), (0, -MOST), (0, MOST), (-MOST, -MOST), (-1, 0), (0, -1)]:
            with self.subTest(n=n, h=h):
                self.assertEqual(ask(size(n, h)), [[-1]])

    def test_it_is_the_size_from_now_on(self):
        self.assertEqual(
            ask(turn(1), size(1, 3), turn(1), turn(2), size(2, 0), turn(2), size(0, 0), turn(1)),
            [[-2], [7, 2], [0, 1], [-2], [1, 8], [0, 1, 1, 0], [1, 1], [-2]])

    def test_a_refused_size_changes_nothing(self):
        for n, h, refusal in [(5, 0, -1), (-1, 0, -1), (3, 10, -1), (1, -1, -1), (4, 2, -7), (3, 3, -7)]:
            with self.subTest(n=n, h=h):
                self.assertEqual(
                    ask(size(2, 1), size(n, h), turn(5), turn(8), compose(5, 5), generated([5]), orbit([], [2, 3, 4])),
                    [[9, 8], [refusal], [1, 0, 0, 1], [-2], [3], [4, 0, 3, 5, 6], [1, 3, 4]])

    def test_a_refused_size_leaves_the_new_object_new(self):
        for n, h, refusal in [(2, 10, -1), (4, 9, -7)]:
            with self.subTest(n=n, h=h):
                self.assertEqual(ask(size(n, h), turn(0), turn(1)), [[refusal], [], [-2]])


if __name__ == "__main__":
    unittest.main()
