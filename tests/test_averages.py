"""mean and then."""

import unittest
from fractions import Fraction

from helper import GREATEST, URNS, ask, average, draws, last, told, urn


class Mean(unittest.TestCase):
    def test_ordinary(self):
        self.assertEqual(last(*urn(1, 2, 4), ("mean", 0, 6)), [0, 2, 1])
        self.assertEqual(last(*urn(1, 2, 5), ("mean", 1, 3)), [0, 15, 7])

    def test_as_over_all_rows(self):
        for more, balls in URNS:
            for i in range(len(balls)):
                for n in range(5):
                    right = average(balls, more, n, lambda colours: colours.count(i))
                    with self.subTest(more=more, balls=balls, i=i, n=n):
                        self.assertEqual(last(*urn(more, *balls), ("mean", i, n)), told(right))

    def test_no_draws(self):
        self.assertEqual(last(*urn(5, 1, 2), ("mean", 0, 0)), [0, 0, 1])

    def test_a_thousand(self):
        self.assertEqual(ask(*urn(5, 1, 2), ("mean", 0, 1000), ("mean", 1, 999))[-2:], [[0, 1000, 3], [0, 666, 1]])

    def test_one_colour(self):
        self.assertEqual(last(*urn(5, 3), ("mean", 0, 1000)), [0, 1000, 1])

    def test_a_colour_of_which_there_is_none(self):
        self.assertEqual(last(*urn(5, 3, 0), ("mean", 1, 1000)), [0, 0, 1])

    def test_from_now_on(self):
        self.assertEqual(ask(*urn(2, 1, 1), ("draw", 0), ("mean", 0, 3), ("back",), ("mean", 0, 3))[-3:],
                         [[0, 9, 4], [0], [0, 3, 2]])

    def test_past_sixty(self):
        self.assertEqual(last(*urn(5, 10, 1), *draws(*[0] * 60), ("mean", 0, 1000)), [0, 310000, 311])

    def test_draws_nothing(self):
        self.assertEqual(ask(*urn(1, 1, 1), ("mean", 0, 9), ("told",), ("was",))[-2:], [[2, 1, 1, 1, 0], [0]])


class Then(unittest.TestCase):
    def test_ordinary(self):
        self.assertEqual(last(*urn(1, 2, 4), ("then", 0, 6)), [0, 4, 1])
        self.assertEqual(last(*urn(2, 2, 5), ("then", 1, 3)), [0, 65, 7])

    def test_as_over_all_rows(self):
        for more, balls in URNS:
            for i in range(len(balls)):
                for n in range(5):
                    right = average(balls, more, n, lambda colours: balls[i] + more * colours.count(i))
                    with self.subTest(more=more, balls=balls, i=i, n=n):
                        self.assertEqual(last(*urn(more, *balls), ("then", i, n)), told(right))

    def test_no_draws_or_no_more_leave_as_many(self):
        self.assertEqual(last(*urn(5, 1, 2), ("then", 1, 0)), [0, 2, 1])
        self.assertEqual(last(*urn(0, 3, 7), ("then", 1, 1000)), [0, 7, 1])

    def test_a_thousand(self):
        self.assertEqual(ask(*urn(5, 1, 2), ("then", 0, 1000), ("then", 1, 999))[-2:], [[0, 5003, 3], [0, 3332, 1]])

    def test_one_colour(self):
        self.assertEqual(last(*urn(5, 3), ("then", 0, 1000)), [0, 5003, 1])

    def test_a_colour_of_which_there_is_none(self):
        self.assertEqual(last(*urn(5, 3, 0), ("then", 1, 1000)), [0, 0, 1])

    def test_from_now_on(self):
        self.assertEqual(ask(*urn(2, 1, 1), ("draw", 0), ("then", 0, 3), ("back",), ("then", 0, 3))[-3:],
                         [[0, 15, 2], [0], [0, 4, 1]])

    def test_past_sixty(self):
        self.assertEqual(last(*urn(5, 10, 1), *draws(*[0] * 60), ("then", 0, 1000)),
                         told(Fraction(310 * (311 + 5000), 311)))

    def test_draws_nothing(self):
        self.assertEqual(ask(*urn(1, 1, 1), ("then", 0, 9), ("told",), ("was",))[-2:], [[2, 1, 1, 1, 0], [0]])

    def test_as_many_more_as_come_on_the_average(self):
        for more, balls in URNS:
            for i in range(len(balls)):
                for n in (0, 1, 7, 60, 1000):
                    mean, then = ask(*urn(more, *balls), ("mean", i, n), ("then", i, n))[-2:]
                    self.assertEqual(then, told(balls[i] + more * Fraction(mean[1], mean[2])))


class Refusals(unittest.TestCase):
    def test_no_balls(self):
        for name in ("mean", "then"):
            self.assertEqual(last(("begin", 1), (name, 0, 1)), [-6])
            self.assertEqual(last(*urn(1, 0, 0), (name, 0, 1)), [-6])
            self.assertEqual(last(*urn(1, 0, 0), (name, 1, 0)), [-6])

    def test_no_such_colour(self):
        for name in ("mean", "then"):
            for i in (2, 3, GREATEST):
                self.assertEqual(last(*urn(1, 1, 1), (name, i, 1)), [-2])

    def test_above_a_thousand(self):
        for name in ("mean", "then"):
            for n in (1001, GREATEST):
                self.assertEqual(last(*urn(1, 1, 1), (name, 0, n)), [-22])

    def test_which_refusal_comes_first(self):
        for name in ("mean", "then"):
            self.assertEqual(last(*urn(1, 0), (name, 1, 1001)), [-6])
            self.assertEqual(last(*urn(1, 0), (name, 1, 1)), [-6])
            self.assertEqual(last(*urn(1, 0), (name, 0, 1001)), [-6])
            self.assertEqual(last(*urn(1, 1), (name, 1, 1001)), [-2])


if __name__ == "__main__":
    unittest.main()
