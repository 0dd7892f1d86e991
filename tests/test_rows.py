"""chance, nth and row."""

import unittest
from fractions import Fraction

from helper import GREATEST, URNS, ask, draws, last, likely, row_call, told, urn, weight


class Chance(unittest.TestCase):
    def test_ordinary(self):
        self.assertEqual(ask(*urn(1, 2, 4, 6), ("chance", 0), ("chance", 1), ("chance", 2))[-3:],
                         [[0, 1, 6], [0, 1, 3], [0, 1, 2]])

    def test_as_many_out_of_all(self):
        for more, balls in URNS:
            for i in range(len(balls)):
                self.assertEqual(last(*urn(more, *balls), ("chance", i)), told(Fraction(balls[i], sum(balls))))

    def test_one_colour_is_certain(self):
        self.assertEqual(last(*urn(3, 7), ("chance", 0)), [0, 1, 1])

    def test_a_colour_of_which_there_is_none(self):
        self.assertEqual(last(*urn(3, 7, 0), ("chance", 1)), [0, 0, 1])

    def test_behind_draws(self):
        self.assertEqual(ask(*urn(5, 1, 1), *draws(0, 0, 1), ("chance", 0), ("chance", 1))[-2:],
                         [[0, 11, 17], [0, 6, 17]])

    def test_no_balls(self):
        self.assertEqual(last(("begin", 1), ("chance", 0)), [-6])
        self.assertEqual(last(*urn(1, 0, 0), ("chance", 0)), [-6])

    def test_no_such_colour(self):
        for i in (1, 4, GREATEST):
            self.assertEqual(last(*urn(1, 1), ("chance", i)), [-2])

    def test_no_balls_goes_ahead_of_no_such_colour(self):
        self.assertEqual(last(*urn(1, 0), ("chance", 1)), [-6])
        self.assertEqual(last(("begin", 1), ("chance", GREATEST)), [-6])


class Nth(unittest.TestCase):
    def test_as_likely_as_over_all_rows(self):
        for more, balls in URNS:
            for n in (1, 2, 4):
                for i in range(len(balls)):
                    right = likely(balls, more, n, lambda colours: colours[n - 1] == i)
                    self.assertEqual(last(*urn(more, *balls), ("nth", i, n)), told(right))

    def test_1_and_1000(self):
        self.assertEqual(ask(*urn(5, 2, 4), ("nth", 0, 1), ("nth", 0, 1000), ("nth", 1, 999))[-3:],
                         [[0, 1, 3], [0, 1, 3], [0, 2, 3]])

    def test_from_now_on(self):
        self.assertEqual(last(*urn(5, 2, 4), ("draw", 0), ("nth", 0, 1000)), [0, 7, 11])

    def test_past_sixty(self):
        self.assertEqual(last(*urn(1, 1, 1), *draws(*[0] * 60), ("nth", 1, 1000)), [0, 1, 62])

    def test_a_colour_of_which_there_is_none(self):
        self.assertEqual(last(*urn(5, 2, 0), ("nth", 1, 3)), [0, 0, 1])

    def test_n_out_of_range(self):
        for n in (0, 1001, GREATEST):
            self.assertEqual(last(*urn(1, 1), ("nth", 0, n)), [-22])

    def test_no_balls_and_no_such_colour(self):
        self.assertEqual(last(*urn(1, 0), ("nth", 0, 1)), [-6])
        self.assertEqual(last(*urn(1, 1), ("nth", 1, 1)), [-2])
        self.assertEqual(last(*urn(1, 1), ("nth", GREATEST, 1000)), [-2])

    def test_which_refusal_comes_first(self):
        self.assertEqual(last(*urn(1, 0), ("nth", 1, 0)), [-6])
        self.assertEqual(last(*urn(1, 0), ("nth", 1, 1)), [-6])
        self.assertEqual(last(*urn(1, 0), ("nth", 0, 1001)), [-6])
        for n in (0, 1001):
            self.assertEqual(last(*urn(1, 1), ("nth", 1, n)), [-2])


class Row(unittest.TestCase):
    def test_ordinary(self):
        self.assertEqual(last(*urn(1, 1, 1), row_call(0, 0, 1)), [0, 1, 12])
        self.assertEqual(last(*urn(2, 3, 1), row_call(0, 1, 0)), [0, 5, 64])

    def test_as_heavy_as_told_out_of_all(self):
        for more, balls in URNS:
            for n in range(7):
                colours = [(k * k + n) % len(balls) for k in range(n)]
                below = 1
                for k in range(n):
                    below *= sum(balls) + more * k
                right = Fraction(weight(balls, more, colours), below)
                self.assertEqual(last(*urn(more, *balls), row_call(*colours)), told(right))

    def test_no_draws_for_certain(self):
        self.assertEqual(last(*urn(1, 1, 1), row_call()), [0, 1, 1])
        self.assertEqual(last(*urn(1, 1, 1), ("row", 0, 0, 1, 0, 1, 0, 1)), [0, 1, 1])

    def test_six_draws(self):
        self.assertEqual(last(*urn(0, 1, 1), row_call(0, 1, 0, 1, 1, 1)), [0, 1, 64])
        self.assertEqual(last(*urn(1, 1, 1), row_call(0, 0, 0, 0, 0, 0)), [0, 1, 7])
        self.assertEqual(last(*urn(5, 10, 10, 10, 10), row_call(0, 1, 2, 3, 0, 1)),
                         told(Fraction(10 ** 4 * 15 ** 2, 40 * 45 * 50 * 55 * 60 * 65)))

    def test_one_colour_is_certain(self):
        self.assertEqual(last(*urn(5, 1), row_call(0, 0, 0, 0)), [0, 1, 1])

    def test_a_colour_of_which_there_is_none(self):
        self.assertEqual(last(*urn(5, 1, 0), row_call(0, 1)), [0, 0, 1])

    def test_from_now_on(self):
        self.assertEqual(last(*urn(1, 1, 1), *draws(0, 0), row_call(0, 1)), [0, 3, 20])

    def test_draws_nothing(self):
        self.assertEqual(ask(*urn(1, 1, 1), row_call(0, 0), ("chance", 0), ("back",), row_call(0, 0))[-4:],
                         [[0, 1, 3], [0, 1, 2], [-12], [0, 1, 3]])

    def test_no_balls(self):
        self.assertEqual(last(*urn(1, 0), row_call()), [-6])
        self.assertEqual(last(("begin", 1), row_call()), [-6])

    def test_above_6(self):
        for n in (7, 8, GREATEST):
            self.assertEqual(last(*urn(1, 1), ("row", n, 0, 0, 0, 0, 0, 0)), [-22])

    def test_each_of_the_first_n_must_be_a_colour(self):
        for n in range(1, 7):
            for k in range(6):
                for wrong in (2, GREATEST):
                    colours = [0, 1, 0, 1, 0, 1]
                    colours[k] = wrong
                    answer = last(*urn(1, 1, 1), ("row", n, *colours))
                    self.assertEqual(answer == [-22], k < n)

    def test_no_balls_goes_ahead(self):
        self.assertEqual(last(*urn(1, 0), ("row", 7, 0, 0, 0, 0, 0, 0)), [-6])
        self.assertEqual(last(*urn(1, 0), ("row", 1, 4, 0, 0, 0, 0, 0)), [-6])


if __name__ == "__main__":
    unittest.main()
