"""chance, nth, row, two, one and ago."""

import unittest
from fractions import Fraction

from helper import GREATEST, URNS, ask, draws, last, likely, row_call, told, urn, weight


class Chance(unittest.TestCase):
    def test_ordinary(self):
        self.assertEqual(ask(*urn(1, 2, 4, 6), ("chance", 0), ("chance", 1), ("chance", 2))[-3:],
                         [[0, 1, 6], [0, 1, 3], [0, 1, 2]])

    def test_as_many_out_of_all(self):
        for more, balls in URNS:
            for i in range(len(balls)):
                self.assertEqual(last(*urn(more, *balls), ("chance", i)), told(Fraction(balls[i], sum(balls))))

    def test_one_colour_is_certain(self):
        self.assertEqual(last(*urn(3, 7), ("chance", 0)), [0, 1, 1])

    def test_a_colour_of_which_there_is_none(self):
        self.assertEqual(last(*urn(3, 7, 0), ("chance", 1)), [0, 0, 1])

    def test_behind_draws(self):
        self.assertEqual(ask(*urn(5, 1, 1), *draws(0, 0, 1), ("chance", 0), ("chance", 1))[-2:],
                         [[0, 11, 17], [0, 6, 17]])

    def test_no_balls(self):
        self.assertEqual(last(("begin", 1), ("chance", 0)), [-6])
        self.assertEqual(last(*urn(1, 0, 0), ("chance", 0)), [-6])

    def test_no_such_colour(self):
        for i in (1, 4, GREATEST):
            self.assertEqual(last(*urn(1, 1), ("chance", i)), [-2])

    def test_no_balls_goes_ahead_of_no_such_colour(self):
        self.assertEqual(last(*urn(1, 0), ("chance", 1)), [-6])
        self.assertEqual(last(("begin", 1), ("chance", GREATEST)), [-6])


class Nth(unittest.TestCase):
    def test_as_likely_as_over_all_rows(self):
        for more, balls in URNS:
            for n in (1, 2, 4):
                for i in range(len(balls)):
                    right = likely(balls, more, n, lambda colours: colours[n - 1] == i)
                    self.assertEqual(last(*urn(more, *balls), ("nth", i, n)), told(right))

    def test_1_and_1000(self):
        self.assertEqual(ask(*urn(5, 2, 4), ("nth", 0, 1), ("nth", 0, 1000), ("nth", 1, 999))[-3:],
                         [[0, 1, 3], [0, 1, 3], [0, 2, 3]])

    def test_from_now_on(self):
        self.assertEqual(last(*urn(5, 2, 4), ("draw", 0), ("nth", 0, 1000)), [0, 7, 11])

    def test_past_sixty(self):
        self.assertEqual(last(*urn(1, 1, 1), *draws(*[0] * 60), ("nth", 1, 1000)), [0, 1, 62])

    def test_a_colour_of_which_there_is_none(self):
        self.assertEqual(last(*urn(5, 2, 0), ("nth", 1, 3)), [0, 0, 1])

    def test_n_out_of_range(self):
        for n in (0, 1001, GREATEST):
            self.assertEqual(last(*urn(1, 1), ("nth", 0, n)), [-22])

    def test_no_balls_and_no_such_colour(self):
        self.assertEqual(last(*urn(1, 0), ("nth", 0, 1)), [-6])
        self.assertEqual(last(*urn(1, 1), ("nth", 1, 1)), [-2])
        self.assertEqual(last(*urn(1, 1), ("nth", GREATEST, 1000)), [-2])

    def test_which_refusal_comes_first(self):
        self.assertEqual(last(*urn(1, 0), ("nth", 1, 0)), [-6])
        self.assertEqual(last(*urn(1, 0), ("nth", 1, 1)), [-6])
        self.assertEqual(last(*urn(1, 0), ("nth", 0, 1001)), [-6])
        for n in (0, 1001):
            self.assertEqual(last(*urn(1, 1), ("nth", 1, n)), [-2])


class Row(unittest.TestCase):
    def test_ordinary(self):
        self.assertEqual(last(*urn(1, 1, 1), row_call(0, 0, 1)), [0, 1, 12])
        self.assertEqual(last(*urn(2, 3, 1), row_call(0, 1, 0)), [0, 5, 64])

    def test_as_heavy_as_told_out_of_all(self):
        for more, balls in URNS:
            for n in range(7):
                colours = [(k * k + n) % len(balls) for k in range(n)]
                below = 1
                for k in range(n):
                    below *= sum(balls) + more * k
                right = Fraction(weight(balls, more, colours), below)
                self.assertEqual(last(*urn(more, *balls), row_call(*colours)), told(right))

    def test_no_draws_for_certain(self):
        self.assertEqual(last(*urn(1, 1, 1), row_call()), [0, 1, 1])
        self.assertEqual(last(*urn(1, 1, 1), ("row", 0, 0, 1, 0, 1, 0, 1)), [0, 1, 1])

    def test_six_draws(self):
        self.assertEqual(last(*urn(0, 1, 1), row_call(0, 1, 0, 1, 1, 1)), [0, 1, 64])
        self.assertEqual(last(*urn(1, 1, 1), row_call(0, 0, 0, 0, 0, 0)), [0, 1, 7])
        self.assertEqual(last(*urn(5, 10, 10, 10, 10), row_call(0, 1, 2, 3, 0, 1)),
                         told(Fraction(10 ** 4 * 15 ** 2, 40 * 45 * 50 * 55 * 60 * 65)))

    def test_one_colour_is_certain(self):
        self.assertEqual(last(*urn(5, 1), row_call(0, 0, 0, 0)), [0, 1, 1])

    def test_a_colour_of_which_there_is_none(self):
        self.assertEqual(last(*urn(5, 1, 0), row_call(0, 1)), [0, 0, 1])

    def test_from_now_on(self):
        self.assertEqual(last(*urn(1, 1, 1), *draws(0, 0), row_call(0, 1)), [0, 3, 20])

    def test_draws_nothing(self):
        self.assertEqual(ask(*urn(1, 1, 1), row_call(0, 0), ("chance", 0), ("back",), row_call(0, 0))[-4:],
                         [[0, 1, 3], [0, 1, 2], [-12], [0, 1, 3]])

    def test_no_balls(self):
        self.assertEqual(last(*urn(1, 0), row_call()), [-6])
        self.assertEqual(last(("begin", 1), row_call()), [-6])

    def test_above_6(self):
        for n in (7, 8, GREATEST):
            self.assertEqual(last(*urn(1, 1), ("row", n, 0, 0, 0, 0, 0, 0)), [-22])

    def test_each_of_the_first_n_must_be_a_colour(self):
        for n in range(1, 7):
            for k in range(6):
                for wrong in (2, GREATEST):
                    colours = [0, 1, 0, 1, 0, 1]
                    colours[k] = wrong
                    answer = last(*urn(1, 1, 1), ("row", n, *colours))
                    self.assertEqual(answer == [-22], k < n)

    def test_no_balls_goes_ahead(self):
        self.assertEqual(last(*urn(1, 0), ("row", 7, 0, 0, 0, 0, 0, 0)), [-6])
        self.assertEqual(last(*urn(1, 0), ("row", 1, 4, 0, 0, 0, 0, 0)), [-6])


class Two(unittest.TestCase):
    def test_ordinary(self):
        self.assertEqual(ask(*urn(1, 1, 2), ("two", 0, 1), ("two", 1, 0), ("two", 0, 0), ("two", 1, 1))[-4:],
                         [[0, 1, 6], [0, 1, 6], [0, 1, 6], [0, 1, 2]])
        self.assertEqual(ask(*urn(2, 3, 5), ("two", 0, 0), ("two", 0, 1))[-2:], [[0, 3, 16], [0, 3, 16]])

    def test_as_likely_as_over_all_rows(self):
        for more, balls in URNS:
            for i in range(len(balls)):
                for j in range(len(balls)):
                    right = likely(balls, more, 2, lambda colours: colours == (i, j))
                    with self.subTest(more=more, balls=balls, i=i, j=j):
                        self.assertEqual(last(*urn(more, *balls), ("two", i, j)), told(right))

    def test_no_more(self):
        self.assertEqual(ask(*urn(0, 1, 2), ("two", 0, 1), ("two", 1, 1))[-2:], [[0, 2, 9], [0, 4, 9]])

    def test_one_colour_is_certain(self):
        self.assertEqual(last(*urn(5, 3), ("two", 0, 0)), [0, 1, 1])

    def test_a_colour_of_which_there_is_none(self):
        self.assertEqual(ask(*urn(5, 0, 1), ("two", 0, 0), ("two", 0, 1), ("two", 1, 0), ("two", 1, 1))[-4:],
                         [[0, 0, 1], [0, 0, 1], [0, 0, 1], [0, 1, 1]])

    def test_from_now_on(self):
        self.assertEqual(last(*urn(1, 1, 1), *draws(0, 0), ("two", 0, 1)), [0, 3, 20])

    def test_past_sixty(self):
        self.assertEqual(last(*urn(5, 10, 1), *draws(*[0] * 60), ("two", 0, 0)),
                         told(Fraction(310 * 315, 311 * 316)))

    def test_draws_nothing(self):
        self.assertEqual(ask(*urn(1, 1, 1), ("two", 0, 0), ("told",), ("was",), ("two", 0, 0))[-4:],
                         [[0, 1, 3], [2, 1, 1, 1, 0], [0], [0, 1, 3]])

    def test_no_balls(self):
        self.assertEqual(last(("begin", 1), ("two", 0, 0)), [-6])
        self.assertEqual(last(*urn(1, 0, 0), ("two", 0, 1)), [-6])

    def test_no_such_colour(self):
        for wrong in (2, 3, GREATEST):
            for call in (("two", wrong, 0), ("two", 0, wrong), ("two", wrong, wrong)):
                self.assertEqual(last(*urn(1, 1, 1), call), [-2])

    def test_no_balls_goes_ahead_of_no_such_colour(self):
        for call in (("two", 1, 0), ("two", 0, 1), ("two", GREATEST, GREATEST)):
            self.assertEqual(last(*urn(1, 0), call), [-6])


class One(unittest.TestCase):
    def test_ordinary(self):
        self.assertEqual(last(*urn(0, 1, 1), ("one", 3)), [0, 1, 4])
        self.assertEqual(last(*urn(1, 1, 1), ("one", 3)), [0, 1, 2])
        self.assertEqual(last(*urn(2, 1, 3), ("one", 2)), [0, 3, 4])

    def test_as_likely_as_over_all_rows(self):
        for more, balls in URNS:
            for n in range(6):
                right = likely(balls, more, n, lambda colours: len(set(colours)) <= 1)
                with self.subTest(more=more, balls=balls, n=n):
                    self.assertEqual(last(*urn(more, *balls), ("one", n)), told(right))

    def test_none_and_one_for_certain(self):
        for balls in ((1,), (2, 3), (0, 1), (1, 2, 3, 4)):
            self.assertEqual(ask(*urn(5, *balls), ("one", 0), ("one", 1))[-2:], [[0, 1, 1], [0, 1, 1]])

    def test_eight_draws(self):
        right = likely((2, 1, 3), 5, 8, lambda colours: len(set(colours)) == 1)
        self.assertEqual(last(*urn(5, 2, 1, 3), ("one", 8)), told(right))

    def test_one_colour_is_certain(self):
        for n in range(9):
            self.assertEqual(last(*urn(5, 3), ("one", n)), [0, 1, 1])

    def test_a_colour_of_which_there_is_none_adds_nothing(self):
        self.assertEqual(last(*urn(5, 0, 3), ("one", 8)), [0, 1, 1])
        self.assertEqual(last(*urn(1, 1, 0, 1), ("one", 2)), [0, 2, 3])

    def test_from_now_on(self):
        self.assertEqual(last(*urn(1, 1, 1), *draws(0, 0), ("one", 2)), [0, 7, 10])

    def test_past_sixty(self):
        above = 1
        below = 1
        for k in range(8):
            above *= 310 + 5 * k
            below *= 311 + 5 * k
        rest = 1 * 6 * 11 * 16 * 21 * 26 * 31 * 36
        self.assertEqual(last(*urn(5, 10, 1), *draws(*[0] * 60), ("one", 8)), told(Fraction(above + rest, below)))

    def test_draws_nothing(self):
        self.assertEqual(ask(*urn(1, 1, 1), ("one", 8), ("told",), ("was",))[-2:], [[2, 1, 1, 1, 0], [0]])

    def test_above_8(self):
        for n in (9, 10, GREATEST):
            self.assertEqual(last(*urn(1, 1, 1), ("one", n)), [-22])

    def test_no_balls(self):
        for n in (0, 1, 8):
            self.assertEqual(last(("begin", 1), ("one", n)), [-6])
            self.assertEqual(last(*urn(1, 0, 0), ("one", n)), [-6])

    def test_no_balls_goes_ahead(self):
        self.assertEqual(last(*urn(1, 0), ("one", 9)), [-6])
        self.assertEqual(last(("begin", 1), ("one", GREATEST)), [-6])


class Ago(unittest.TestCase):
    def test_ordinary(self):
        self.assertEqual(last(*urn(1, 1, 1), *draws(0, 0, 1), ("ago",)), [0, 1, 12])
        self.assertEqual(last(*urn(2, 3, 1), *draws(0, 1, 0), ("ago",)), [0, 5, 64])

    def test_as_heavy_as_told_out_of_all_rows(self):
        for more, balls in URNS:
            there = [i for i in range(len(balls)) if balls[i] > 0]
            for n in range(6):
                drawn = tuple(there[(k * k + n) % len(there)] for k in range(n))
                right = likely(balls, more, n, lambda colours: colours == drawn)
                with self.subTest(more=more, balls=balls, drawn=drawn):
                    self.assertEqual(last(*urn(more, *balls), *draws(*drawn), ("ago",)), told(right))

    def test_nothing_drawn_for_certain(self):
        self.assertEqual(last(*urn(5, 1, 2), ("ago",)), [0, 1, 1])
        self.assertEqual(last(*urn(5, 0, 2), ("ago",)), [0, 1, 1])

    def test_one_colour_is_certain(self):
        self.assertEqual(last(*urn(5, 1), *draws(0, 0, 0), ("ago",)), [0, 1, 1])
        self.assertEqual(last(*urn(5, 0, 1), *draws(1, 1, 1), ("ago",)), [0, 1, 1])

    def test_no_more(self):
        self.assertEqual(last(*urn(0, 1, 2), *draws(0, 1, 1), ("ago",)), [0, 4, 27])

    def test_a_refused_draw_is_left_out(self):
        self.assertEqual(last(*urn(1, 1, 1, 0), *draws(0, 2, 3), ("ago",)), [0, 1, 2])

    def test_more_that_was_told_anew(self):
        self.assertEqual(last(*urn(1, 1, 1), ("more", 5), *draws(0, 0), ("ago",)), [0, 3, 7])
        self.assertEqual(last(*urn(5, 1, 1), ("draw", 1), ("back",), ("more", 1), *draws(0, 0), ("ago",)), [0, 1, 3])

    def test_twenty_and_no_more(self):
        colours = [0, 1] * 10
        below = 1
        for k in range(20):
            below *= 3 + 5 * k
        right = told(Fraction(weight((1, 2), 5, colours), below))
        made = urn(5, 1, 2) + draws(*colours)
        self.assertEqual(last(*made, ("ago",)), right)
        self.assertEqual(ask(*made, ("draw", 0), ("ago",), ("back",), ("ago",))[-3:], [[-28], [0], right])

    def test_sixty_are_too_many(self):
        self.assertEqual(last(*urn(0, 1), *draws(*[0] * 60), ("ago",)), [-28])

    def test_a_draw_taken_back(self):
        self.assertEqual(ask(*urn(1, 1, 1), *draws(0, 0), ("ago",), ("back",), ("ago",), ("back",), ("ago",))[-5:],
                         [[0, 1, 3], [0], [0, 1, 2], [0], [0, 1, 1]])

    def test_changes_nothing(self):
        self.assertEqual(ask(*urn(1, 1, 1), *draws(0, 1), ("ago",), ("told",), ("was",), ("ago",))[-4:],
                         [[0, 1, 6], [2, 2, 2, 1, 2], [2, 0, 1], [0, 1, 6]])

    def test_no_balls(self):
        self.assertEqual(last(("begin", 1), ("ago",)), [-6])
        self.assertEqual(last(*urn(1, 0, 0), ("ago",)), [-6])


if __name__ == "__main__":
    unittest.main()
