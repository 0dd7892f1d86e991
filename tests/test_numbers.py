"""counts, just, all and likeliest."""

import unittest
from fractions import Fraction
from itertools import product

from helper import GREATEST, URNS, all_weights, ask, counts_call, draws, last, likely, told, urn


def numbers_of(colours, balls):
    return tuple(colours.count(i) for i in range(len(balls)))


class Counts(unittest.TestCase):
    def test_ordinary(self):
        self.assertEqual(last(*urn(0, 1, 1), counts_call(2, 2)), [0, 3, 8])
        self.assertEqual(last(*urn(1, 1, 2), counts_call(1, 1)), [0, 1, 3])
        self.assertEqual(last(*urn(1, 1, 2, 3), counts_call(1, 1, 1)), [0, 3, 28])

    def test_as_likely_as_over_all_rows(self):
        for more, balls in URNS:
            for wanted in product(range(3), repeat=len(balls)):
                n = sum(wanted)
                if n > 5:
                    continue
                right = likely(balls, more, n, lambda colours: numbers_of(colours, balls) == wanted)
                with self.subTest(more=more, balls=balls, wanted=wanted):
                    self.assertEqual(last(*urn(more, *balls), counts_call(*wanted)), told(right))

    def test_eight_draws(self):
        for wanted in ((8, 0, 0), (3, 3, 2), (0, 1, 7)):
            balls = (1, 2, 4)
            right = likely(balls, 5, 8, lambda colours: numbers_of(colours, balls) == wanted)
            self.assertEqual(last(*urn(5, *balls), counts_call(*wanted)), told(right))

    def test_no_draws_for_certain(self):
        self.assertEqual(last(*urn(5, 1, 2), counts_call(0, 0)), [0, 1, 1])

    def test_one_colour_is_certain(self):
        self.assertEqual(last(*urn(5, 1), counts_call(8)), [0, 1, 1])

    def test_a_colour_of_which_there_is_none(self):
        self.assertEqual(last(*urn(5, 0, 1), counts_call(1, 2)), [0, 0, 1])
        self.assertEqual(last(*urn(5, 0, 1), counts_call(0, 3)), [0, 1, 1])

    def test_from_now_on(self):
        self.assertEqual(last(*urn(1, 1, 1), *draws(0, 0), counts_call(1, 1)), [0, 3, 10])

    def test_draws_nothing(self):
        self.assertEqual(ask(*urn(1, 1, 1), counts_call(3, 1), ("chance", 0), ("back",))[-2:], [[0, 1, 2], [-12]])

    def test_more_than_8(self):
        for wanted in ((9, 0), (0, 9), (4, 5), (GREATEST, 0), (GREATEST, GREATEST), (1, GREATEST)):
            self.assertEqual(last(*urn(1, 1, 1), counts_call(*wanted)), [-22])
        self.assertEqual(last(*urn(1, 1, 1, 1, 1), counts_call(3, 2, 2, 2)), [-22])

    def test_only_as_many_as_there_are_colours_are_looked_at(self):
        self.assertEqual(last(*urn(1, 1), ("counts", 8, 9, 9, 9)), [0, 1, 1])
        self.assertEqual(last(*urn(1, 1, 1, 1), ("counts", 3, 3, 2, 1)), [0, 1, 45])
        self.assertEqual(last(*urn(1, 1, 1, 1), ("counts", 3, 3, 3, 0)), [-22])

    def test_no_balls(self):
        self.assertEqual(last(("begin", 1), ("counts", 0, 0, 0, 0)), [-6])
        self.assertEqual(last(*urn(1, 0), ("counts", 0, 0, 0, 0)), [-6])

    def test_no_balls_goes_ahead(self):
        self.assertEqual(last(*urn(1, 0), ("counts", 9, 0, 0, 0)), [-6])


class Just(unittest.TestCase):
    def test_ordinary(self):
        self.assertEqual(last(*urn(0, 1, 1), ("just", 0, 4, 2)), [0, 3, 8])
        self.assertEqual(last(*urn(1, 1, 2, 3), ("just", 1, 2, 1)), [0, 8, 21])

    def test_as_likely_as_over_all_rows(self):
        for more, balls in URNS:
            for i in range(len(balls)):
                for n in range(5):
                    for k in range(n + 2):
                        right = likely(balls, more, n, lambda colours: colours.count(i) == k)
                        with self.subTest(more=more, balls=balls, i=i, n=n, k=k):
                            self.assertEqual(last(*urn(more, *balls), ("just", i, n, k)), told(right))

    def test_eight_draws(self):
        for k in range(9):
            right = likely((2, 1, 3), 5, 8, lambda colours: colours.count(1) == k)
            self.assertEqual(last(*urn(5, 2, 1, 3), ("just", 1, 8, k)), told(right))

    def test_no_draws(self):
        self.assertEqual(ask(*urn(5, 1, 1), ("just", 0, 0, 0), ("just", 0, 0, 1))[-2:], [[0, 1, 1], [0, 0, 1]])

    def test_one_colour(self):
        self.assertEqual(ask(*urn(5, 3), ("just", 0, 8, 8), ("just", 0, 8, 7))[-2:], [[0, 1, 1], [0, 0, 1]])

    def test_a_colour_of_which_there_is_none(self):
        self.assertEqual(ask(*urn(5, 3, 0), ("just", 1, 8, 0), ("just", 1, 8, 1))[-2:], [[0, 1, 1], [0, 0, 1]])

    def test_more_of_them_than_draws(self):
        for k in (9, 10, GREATEST):
            self.assertEqual(last(*urn(1, 1, 1), ("just", 0, 8, k)), [0, 0, 1])

    def test_from_now_on(self):
        self.assertEqual(last(*urn(1, 1, 1), *draws(0, 0), ("just", 1, 2, 1)), [0, 3, 10])

    def test_each_refusal(self):
        self.assertEqual(last(*urn(1, 0), ("just", 0, 1, 1)), [-6])
        for i in (1, GREATEST):
            self.assertEqual(last(*urn(1, 1), ("just", i, 1, 1)), [-2])
        for n in (9, GREATEST):
            self.assertEqual(last(*urn(1, 1), ("just", 0, n, 1)), [-22])

    def test_which_refusal_comes_first(self):
        self.assertEqual(last(*urn(1, 0), ("just", 1, 9, 1)), [-6])
        self.assertEqual(last(*urn(1, 0), ("just", 1, 8, 1)), [-6])
        self.assertEqual(last(*urn(1, 0), ("just", 0, 9, 1)), [-6])
        self.assertEqual(last(*urn(1, 1), ("just", 1, 9, 1)), [-2])
        self.assertEqual(last(*urn(1, 1), ("just", 0, 9, 10)), [-22])


class All(unittest.TestCase):
    def test_ordinary(self):
        self.assertEqual(last(*urn(0, 1, 1), ("all", 0, 3)), [4, 1, 3, 3, 1])
        self.assertEqual(last(*urn(1, 1, 2), ("all", 0, 2)), [3, 6, 4, 2])

    def test_not_brought_to_lowest_terms(self):
        self.assertEqual(last(*urn(0, 10, 10), ("all", 0, 1)), [2, 10, 10])

    def test_as_heavy_as_all_rows_together(self):
        for more, balls in URNS:
            for i in range(len(balls)):
                for n in range(5):
                    right = [0] * (n + 1)
                    for colours, heavy in all_weights(balls, more, n):
                        right[colours.count(i)] += heavy
                    with self.subTest(more=more, balls=balls, i=i, n=n):
                        self.assertEqual(last(*urn(more, *balls), ("all", i, n)), [n + 1] + right)

    def test_eight_draws(self):
        right = [0] * 9
        for colours, heavy in all_weights((10, 10, 9), 5, 8):
            right[colours.count(2)] += heavy
        self.assertEqual(last(*urn(5, 10, 10, 9), ("all", 2, 8)), [9] + right)

    def test_rows_of_none(self):
        self.assertEqual(last(*urn(5, 2, 3), ("all", 1, 0)), [1, 1])
        self.assertEqual(last(*urn(5, 2, 0), ("all", 1, 0)), [1, 1])

    def test_one_colour(self):
        self.assertEqual(last(*urn(2, 3), ("all", 0, 3)), [4, 0, 0, 0, 3 * 5 * 7])

    def test_a_colour_of_which_there_is_none(self):
        self.assertEqual(last(*urn(2, 3, 0), ("all", 1, 3)), [4, 3 * 5 * 7, 0, 0, 0])

    def test_from_now_on(self):
        self.assertEqual(last(*urn(1, 1, 1), *draws(0, 0), ("all", 0, 2)), [3, 2, 6, 12])

    def test_great_numbers_behind_sixty_draws(self):
        heavy = Fraction(1)
        for k in range(8):
            heavy *= 10 + 5 * 60 + 5 * k
        answer = last(*urn(5, 10, 0), *draws(*[0] * 60), ("all", 0, 8))
        self.assertEqual(answer, [9] + [0] * 8 + [int(heavy)])
        self.assertGreater(answer[-1], GREATEST ** 2)

    def test_each_refusal(self):
        self.assertEqual(last(*urn(1, 0), ("all", 0, 1)), [-6])
        for i in (1, GREATEST):
            self.assertEqual(last(*urn(1, 1), ("all", i, 1)), [-2])
        for n in (9, GREATEST):
            self.assertEqual(last(*urn(1, 1), ("all", 0, n)), [-22])

    def test_which_refusal_comes_first(self):
        self.assertEqual(last(*urn(1, 0), ("all", 1, 9)), [-6])
        self.assertEqual(last(*urn(1, 0), ("all", 1, 8)), [-6])
        self.assertEqual(last(*urn(1, 0), ("all", 0, 9)), [-6])
        self.assertEqual(last(*urn(1, 1), ("all", 1, 9)), [-2])


class Likeliest(unittest.TestCase):
    def test_ordinary(self):
        self.assertEqual(last(*urn(0, 3, 1), ("likeliest", 0, 4)), [3])
        self.assertEqual(last(*urn(0, 1, 1), ("likeliest", 0, 4)), [2])
        self.assertEqual(last(*urn(1, 5, 2, 1), ("likeliest", 1, 8)), [1])

    def test_as_heavy_as_all_rows_together(self):
        for more, balls in URNS:
            for i in range(len(balls)):
                for n in range(5):
                    heaviest = [0] * (n + 1)
                    for colours, heavy in all_weights(balls, more, n):
                        heaviest[colours.count(i)] += heavy
                    right = min(range(n + 1), key=lambda k: (-heaviest[k], k))
                    with self.subTest(more=more, balls=balls, i=i, n=n):
                        self.assertEqual(last(*urn(more, *balls), ("likeliest", i, n)), [right])

    def test_the_greatest_of_all(self):
        for more, balls in URNS:
            for i in range(len(balls)):
                for n in range(9):
                    heavy, found = ask(*urn(more, *balls), ("all", i, n), ("likeliest", i, n))[-2:]
                    self.assertEqual(len(found), 1)
                    k = found[0]
                    self.assertTrue(all(other < heavy[k + 1] for other in heavy[1:k + 1]))
                    self.assertTrue(all(other <= heavy[k + 1] for other in heavy[k + 1:]))

    def test_of_like_ones_the_least(self):
        self.assertEqual(last(*urn(0, 1, 1), ("likeliest", 0, 3)), [1])
        self.assertEqual(last(*urn(0, 1, 1), ("likeliest", 0, 1)), [0])
        for n in range(9):
            self.assertEqual(last(*urn(1, 1, 1), ("likeliest", 1, n)), [0])
        # Where more is above 1 from one of each, both ends are as likely, and likelier than what lies between.
        self.assertEqual(last(*urn(5, 1, 1), ("likeliest", 0, 8)), [0])

    def test_no_draws(self):
        self.assertEqual(last(*urn(5, 1, 1), ("likeliest", 0, 0)), [0])
        self.assertEqual(last(*urn(5, 1), ("likeliest", 0, 0)), [0])

    def test_eight_draws(self):
        self.assertEqual(ask(*urn(0, 10, 1), ("likeliest", 0, 8), ("likeliest", 1, 8))[-2:], [[8], [0]])

    def test_one_colour(self):
        for n in range(9):
            self.assertEqual(last(*urn(5, 3), ("likeliest", 0, n)), [n])

    def test_a_colour_of_which_there_is_none(self):
        for n in range(9):
            self.assertEqual(last(*urn(5, 3, 0), ("likeliest", 1, n)), [0])

    def test_from_now_on(self):
        self.assertEqual(ask(*urn(1, 1, 1), ("likeliest", 0, 5), *draws(0, 0), ("likeliest", 0, 5), ("back",),
                             ("back",), ("likeliest", 0, 5))[-6:], [[2], [3], [5], [0], [0], [0]])

    def test_draws_nothing(self):
        self.assertEqual(ask(*urn(1, 1, 1), ("likeliest", 0, 8), ("told",), ("was",))[-2:], [[2, 1, 1, 1, 0], [0]])

    def test_each_refusal(self):
        self.assertEqual(last(("begin", 1), ("likeliest", 0, 1)), [-6])
        self.assertEqual(last(*urn(1, 0), ("likeliest", 0, 1)), [-6])
        for i in (1, GREATEST):
            self.assertEqual(last(*urn(1, 1), ("likeliest", i, 1)), [-2])
        for n in (9, GREATEST):
            self.assertEqual(last(*urn(1, 1), ("likeliest", 0, n)), [-22])

    def test_which_refusal_comes_first(self):
        self.assertEqual(last(*urn(1, 0), ("likeliest", 1, 9)), [-6])
        self.assertEqual(last(*urn(1, 0), ("likeliest", 1, 8)), [-6])
        self.assertEqual(last(*urn(1, 0), ("likeliest", 0, 9)), [-6])
        self.assertEqual(last(*urn(1, 1), ("likeliest", 1, 9)), [-2])


if __name__ == "__main__":
    unittest.main()
