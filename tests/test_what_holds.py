"""Each line of "What holds", as far as it speaks of the calls there are."""

import unittest
from fractions import Fraction
from itertools import permutations, product

from helper import URNS, as_fraction, ask, counts_call, draws, last, row_call, urn


def all_numbers(colours, n):
    """So many of each colour, n together, in all ways."""
    return [wanted for wanted in product(range(n + 1), repeat=colours) if sum(wanted) == n]


class WhatHolds(unittest.TestCase):
    def test_a_row_is_as_likely_in_whatever_order(self):
        for more, balls in URNS:
            colours = [k % len(balls) for k in (0, 0, 0, 1, 2, 3)]
            first = last(*urn(more, *balls), row_call(*colours))
            for order in sorted(set(permutations(colours))):
                self.assertEqual(last(*urn(more, *balls), row_call(*order)), first)

    def test_each_draw_is_as_likely_as_the_first(self):
        for more, balls in URNS:
            for i in range(len(balls)):
                made = urn(more, *balls)
                told = ask(*made, ("chance", i), *[("nth", i, n) for n in (1, 2, 3, 8, 60, 61, 999, 1000)])
                self.assertEqual(told[len(made):], [told[len(made)]] * 9)

    def test_so_likely_so_many_of_each_over_all_rows(self):
        for more, balls in URNS:
            for wanted in all_numbers(len(balls), 4):
                together = Fraction(0)
                for colours in product(range(len(balls)), repeat=4):
                    if tuple(colours.count(i) for i in range(len(balls))) == wanted:
                        together += as_fraction(last(*urn(more, *balls), row_call(*colours)))
                self.assertEqual(as_fraction(last(*urn(more, *balls), counts_call(*wanted))), together)

    def test_all_together_for_certain(self):
        for more, balls in URNS:
            made = urn(more, *balls)
            self.assertEqual(sum(as_fraction(last(*made, ("chance", i))) for i in range(len(balls))), 1)
            for n in (0, 1, 5, 8):
                self.assertEqual(sum(as_fraction(last(*made, counts_call(*wanted)))
                                     for wanted in all_numbers(len(balls), n)), 1)
                for i in range(len(balls)):
                    self.assertEqual(sum(as_fraction(last(*made, ("just", i, n, k))) for k in range(n + 1)), 1)

    def test_just_is_its_part_of_all(self):
        for more, balls in URNS:
            made = urn(more, *balls)
            for i in range(len(balls)):
                for n in range(9):
                    heavy = last(*made, ("all", i, n))[1:]
                    for k in range(n + 1):
                        self.assertEqual(as_fraction(last(*made, ("just", i, n, k))), Fraction(heavy[k], sum(heavy)))

    def test_from_one_of_each_with_one_more_all_numbers_are_as_likely(self):
        for colours in range(1, 5):
            for n in range(9):
                ways = all_numbers(colours, n)
                for wanted in ways:
                    answer = last(*urn(1, *[1] * colours), counts_call(*wanted))
                    self.assertEqual(answer, [0, 1, len(ways)])
        for n in range(9):
            for k in range(n + 1):
                self.assertEqual(last(*urn(1, 1, 1), ("just", 0, n, k)), [0, 1, n + 1])

    def test_one_colour_drawn_is_no_less_likely_the_next(self):
        for more, balls in URNS:
            for i in range(len(balls)):
                if balls[i] == 0:
                    continue
                before, drawn, behind = ask(*urn(more, *balls), ("chance", i), ("draw", i), ("chance", i))[-3:]
                self.assertGreaterEqual(as_fraction(behind), as_fraction(before))

    def test_taken_back_it_is_as_before(self):
        for more, balls in URNS:
            i = len(balls) - 1
            first = [k for k in range(len(balls)) if balls[k] > 0][0]
            asked = [("chance", i), ("nth", i, 7), row_call(i, 0, i), counts_call(*[1] * len(balls)),
                     ("just", i, 6, 2), ("all", i, 8)]
            made = urn(more, *balls) + draws(first)
            told = ask(*made, *asked, *draws(first, first), ("back",), ("back",), *asked, ("back",), ("back",))
            before = told[len(made):len(made) + len(asked)]
            self.assertEqual(told[-8:-2], before)
            self.assertEqual(told[-2:], [[first], [-12]])


if __name__ == "__main__":
    unittest.main()
