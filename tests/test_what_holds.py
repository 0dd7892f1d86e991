"""Each line of "What holds"."""

import unittest
from fractions import Fraction
from itertools import permutations, product

from helper import URNS, as_fraction, ask, counts_call, draws, last, row_call, urn


def all_numbers(colours, n):
    """So many of each colour, n together, in all ways."""
    return [wanted for wanted in product(range(n + 1), repeat=colours) if sum(wanted) == n]


class WhatHolds(unittest.TestCase):
    def test_a_row_is_as_likely_in_whatever_order(self):
        for more, balls in URNS:
            colours = [k % len(balls) for k in (0, 0, 0, 1, 2, 3)]
            first = last(*urn(more, *balls), row_call(*colours))
            for order in sorted(set(permutations(colours))):
                self.assertEqual(last(*urn(more, *balls), row_call(*order)), first)
            for i in range(len(balls)):
                for j in range(i):
                    one_way, other_way = ask(*urn(more, *balls), ("two", i, j), ("two", j, i))[-2:]
                    self.assertEqual(one_way, other_way)

    def test_what_was_drawn_is_as_likely_in_whatever_order(self):
        for more in range(6):
            first = last(*urn(more, 1, 2, 3), *draws(0, 0, 1, 2, 2), ("ago",))
            for order in sorted(set(permutations((0, 0, 1, 2, 2)))):
                self.assertEqual(last(*urn(more, 1, 2, 3), *draws(*order), ("ago",)), first)

    def test_what_was_drawn_was_as_likely_as_the_row_ahead_of_it(self):
        for more in range(6):
            for colours in product(range(3), repeat=4):
                before, *drawn, behind = ask(*urn(more, 1, 2, 3), row_call(*colours), *draws(*colours), ("ago",))[4:]
                self.assertEqual(behind, before)

    def test_two_is_a_row_of_two(self):
        for more, balls in URNS:
            for i, j in product(range(len(balls)), repeat=2):
                first, second = ask(*urn(more, *balls), ("two", i, j), row_call(i, j))[-2:]
                self.assertEqual(first, second)

    def test_each_draw_is_as_likely_as_the_first(self):
        for more, balls in URNS:
            for i in range(len(balls)):
                made = urn(more, *balls)
                told = ask(*made, ("chance", i), *[("nth", i, n) for n in (1, 2, 3, 8, 60, 61, 999, 1000)])
                self.assertEqual(told[len(made):], [told[len(made)]] * 9)

    def test_on_the_average_each_draw_adds_as_much_as_the_first(self):
        for more, balls in URNS:
            for i in range(len(balls)):
                for n in (0, 1, 8, 1000):
                    chance, mean = ask(*urn(more, *balls), ("chance", i), ("mean", i, n))[-2:]
                    self.assertEqual(as_fraction(mean), n * as_fraction(chance))

    def test_so_likely_so_many_of_each_over_all_rows(self):
        for more, balls in URNS:
            for wanted in all_numbers(len(balls), 4):
                together = Fraction(0)
                for colours in product(range(len(balls)), repeat=4):
                    if tuple(colours.count(i) for i in range(len(balls))) == wanted:
                        together += as_fraction(last(*urn(more, *balls), row_call(*colours)))
                self.assertEqual(as_fraction(last(*urn(more, *balls), counts_call(*wanted))), together)

    def test_all_together_for_certain(self):
        for more, balls in URNS:
            made = urn(more, *balls)
            self.assertEqual(sum(as_fraction(last(*made, ("chance", i))) for i in range(len(balls))), 1)
            self.assertEqual(sum(as_fraction(last(*made, ("two", i, j)))
                                 for i, j in product(range(len(balls)), repeat=2)), 1)
            for n in (0, 1, 60, 1000):
                self.assertEqual(sum(as_fraction(last(*made, ("mean", i, n))) for i in range(len(balls))), n)
                self.assertEqual(sum(as_fraction(last(*made, ("then", i, n))) for i in range(len(balls))),
                                 sum(balls) + more * n)
            for n in (0, 1, 5, 8):
                self.assertEqual(sum(as_fraction(last(*made, counts_call(*wanted)))
                                     for wanted in all_numbers(len(balls), n)), 1)
                for i in range(len(balls)):
                    self.assertEqual(sum(as_fraction(last(*made, ("just", i, n, k))) for k in range(n + 1)), 1)

    def test_the_mean_is_that_of_all_numbers(self):
        for more, balls in URNS:
            made = urn(more, *balls)
            for i in range(len(balls)):
                for n in range(9):
                    heavy = last(*made, ("all", i, n))[1:]
                    right = Fraction(sum(k * heavy[k] for k in range(n + 1)), sum(heavy))
                    self.assertEqual(as_fraction(last(*made, ("mean", i, n))), right)

    def test_one_colour_whichever_is_each_one_together(self):
        for more, balls in URNS:
            made = urn(more, *balls)
            for n in range(1, 9):
                together = sum(as_fraction(last(*made, ("just", i, n, n))) for i in range(len(balls)))
                self.assertEqual(as_fraction(last(*made, ("one", n))), together)

    def test_just_is_its_part_of_all(self):
        for more, balls in URNS:
            made = urn(more, *balls)
            for i in range(len(balls)):
                for n in range(9):
                    heavy = last(*made, ("all", i, n))[1:]
                    for k in range(n + 1):
                        self.assertEqual(as_fraction(last(*made, ("just", i, n, k))), Fraction(heavy[k], sum(heavy)))

    def test_from_one_of_each_with_one_more_all_numbers_are_as_likely(self):
        for colours in range(1, 5):
            for n in range(9):
                ways = all_numbers(colours, n)
                for wanted in ways:
                    answer = last(*urn(1, *[1] * colours), counts_call(*wanted))
                    self.assertEqual(answer, [0, 1, len(ways)])
        for n in range(9):
            for k in range(n + 1):
                self.assertEqual(last(*urn(1, 1, 1), ("just", 0, n, k)), [0, 1, n + 1])
            self.assertEqual(last(*urn(1, 1, 1), ("likeliest", 0, n)), [0])

    def test_one_colour_drawn_is_no_less_likely_the_next(self):
        for more, balls in URNS:
            for i in range(len(balls)):
                if balls[i] == 0:
                    continue
                before, drawn, behind = ask(*urn(more, *balls), ("chance", i), ("draw", i), ("chance", i))[-3:]
                self.assertGreaterEqual(as_fraction(behind), as_fraction(before))
                chance, both = ask(*urn(more, *balls), ("chance", i), ("two", i, i))[-2:]
                self.assertGreaterEqual(as_fraction(both), as_fraction(chance) ** 2)

    def test_taken_back_it_is_as_before(self):
        for more, balls in URNS:
            i = len(balls) - 1
            first = [k for k in range(len(balls)) if balls[k] > 0][0]
            asked = [("chance", i), ("nth", i, 7), row_call(i, 0, i), counts_call(*[1] * len(balls)),
                     ("just", i, 6, 2), ("all", i, 8), ("two", i, first), ("mean", i, 9), ("then", i, 9),
                     ("likeliest", i, 7), ("one", 3), ("was",), ("ago",), ("told",)]
            made = urn(more, *balls) + draws(first)
            told = ask(*made, *asked, *draws(first, first), ("back",), ("back",), *asked, ("back",), ("back",))
            before = told[len(made):len(made) + len(asked)]
            self.assertEqual(told[-2 - len(asked):-2], before)
            self.assertEqual(told[-2:], [[first], [-12]])


if __name__ == "__main__":
    unittest.main()
