"""Each corner that the document lists, over all calls that it touches."""

import unittest
from fractions import Fraction

from helper import ask, counts_call, draws, row_call, told, urn


class Corners(unittest.TestCase):
    def check(self, made, right):
        """That behind these calls each call of right, a list of pairs, is answered so."""
        got = ask(*made, *[call for call, answer in right])[len(made):]
        for (call, answer), found in zip(right, got, strict=True):
            with self.subTest(call=call):
                self.assertEqual(found, answer)

    def test_no_more(self):
        self.check(urn(0, 1, 3) + draws(0, 1, 1), [
            (("told",), [2, 1, 3, 0, 3]), (("was",), [3, 0, 1, 1]), (("ago",), [0, 9, 64]),
            (("chance", 0), [0, 1, 4]), (("nth", 0, 1000), [0, 1, 4]), (row_call(0, 1, 1), [0, 9, 64]),
            (counts_call(1, 2), [0, 27, 64]), (("just", 0, 3, 1), [0, 27, 64]), (("all", 0, 3), [4, 27, 27, 9, 1]),
            (("likeliest", 0, 3), [0]), (("two", 0, 1), [0, 3, 16]), (("mean", 0, 1000), [0, 250, 1]),
            (("then", 0, 1000), [0, 1, 1]), (("one", 3), [0, 7, 16]), (("draw", 0), [1]), (("back",), [0]),
            (("more", 1), [-16]),
        ])

    def test_one_colour(self):
        self.check(urn(2, 3), [
            (("told",), [1, 3, 2, 0]), (("chance", 0), [0, 1, 1]), (("nth", 0, 9), [0, 1, 1]),
            (row_call(0, 0, 0, 0, 0, 0), [0, 1, 1]), (counts_call(8), [0, 1, 1]), (("just", 0, 8, 8), [0, 1, 1]),
            (("just", 0, 8, 0), [0, 0, 1]), (("all", 0, 2), [3, 0, 0, 15]), (("likeliest", 0, 8), [8]),
            (("two", 0, 0), [0, 1, 1]), (("two", 0, 1), [-2]), (("mean", 0, 7), [0, 7, 1]),
            (("then", 0, 7), [0, 17, 1]), (("one", 8), [0, 1, 1]), (("draw", 0), [5]), (("ago",), [0, 1, 1]),
            (("was",), [1, 0]),
        ])

    def test_a_colour_of_which_there_is_none(self):
        self.check(urn(5, 0, 2), [
            (("told",), [2, 0, 2, 5, 0]), (("draw", 0), [-33]), (("was",), [0]), (("chance", 0), [0, 0, 1]),
            (("nth", 0, 1000), [0, 0, 1]), (row_call(1, 0), [0, 0, 1]), (counts_call(1, 0), [0, 0, 1]),
            (counts_call(0, 1), [0, 1, 1]), (("just", 0, 2, 0), [0, 1, 1]), (("all", 0, 2), [3, 14, 0, 0]),
            (("likeliest", 0, 8), [0]), (("likeliest", 1, 8), [8]), (("two", 1, 0), [0, 0, 1]),
            (("two", 0, 1), [0, 0, 1]), (("mean", 0, 1000), [0, 0, 1]), (("then", 0, 1000), [0, 0, 1]),
            (("one", 8), [0, 1, 1]), (("draw", 1), [7]), (("ago",), [0, 1, 1]),
        ])

    def test_no_draws(self):
        self.check(urn(5, 2, 3, 0), [
            (("told",), [3, 2, 3, 0, 5, 0]), (("was",), [0]), (("ago",), [0, 1, 1]), (("back",), [-12]),
            (("nth", 0, 0), [-22]), (row_call(), [0, 1, 1]), (counts_call(0, 0, 0), [0, 1, 1]),
            (("just", 1, 0, 0), [0, 1, 1]), (("just", 1, 0, 1), [0, 0, 1]), (("likeliest", 1, 0), [0]),
            (("mean", 1, 0), [0, 0, 1]), (("then", 1, 0), [0, 3, 1]), (("one", 0), [0, 1, 1]), (("more", 0), [5]),
        ])

    def test_eight_draws(self):
        self.check(urn(0, 1, 1), [
            (counts_call(4, 4), [0, 35, 128]), (("just", 0, 8, 4), [0, 35, 128]), (("likeliest", 0, 8), [4]),
            (("all", 0, 8), [9, 1, 8, 28, 56, 70, 56, 28, 8, 1]), (("one", 8), [0, 1, 128]),
            (counts_call(4, 5), [-22]), (("just", 0, 9, 4), [-22]), (("likeliest", 0, 9), [-22]),
            (("all", 0, 9), [-22]), (("one", 9), [-22]),
        ])

    def test_sixty(self):
        self.check(urn(1, 1, 1) + draws(*[0] * 60), [
            (("draw", 0), [-28]), (("told",), [2, 61, 1, 1, 60]), (("was",), [60] + [0] * 60), (("ago",), [-28]),
            (("chance", 1), [0, 1, 62]), (("nth", 1, 1000), [0, 1, 62]), (row_call(1, 1), [0, 1, 1953]),
            (("two", 1, 1), [0, 1, 1953]), (("mean", 0, 1000), [0, 30500, 31]), (("then", 1, 62), [0, 2, 1]),
            (("one", 2), told(Fraction(61 * 62 + 2, 62 * 63))), (("likeliest", 0, 8), [8]), (("colour", 1), [-16]),
            (("more", 1), [-16]), (("back",), [0]), (("draw", 1), [2]), (("draw", 1), [-28]),
        ])

    def test_more_of_5(self):
        self.check(urn(0, 1, 1) + [("more", 5), ("draw", 0)], [
            (("told",), [2, 6, 1, 5, 1]), (("was",), [1, 0]), (("ago",), [0, 1, 2]), (("chance", 0), [0, 6, 7]),
            (row_call(0, 1), [0, 1, 14]), (counts_call(1, 1), [0, 1, 7]), (("just", 1, 2, 2), [0, 1, 14]),
            (("all", 0, 2), [3, 6, 12, 66]), (("likeliest", 0, 2), [2]), (("two", 0, 0), [0, 11, 14]),
            (("mean", 0, 7), [0, 6, 1]), (("then", 0, 7), [0, 36, 1]), (("one", 2), [0, 6, 7]),
        ])
        self.check([("begin", 5)], [(("more", 6), [-22]), (("begin", 6), [-22]), (("told",), [0, 5, 0])])

    def test_a_draw_taken_back(self):
        self.check(urn(3, 1, 2) + draws(1, 0) + [("back",)], [
            (("told",), [2, 1, 5, 3, 1]), (("was",), [1, 1]), (("ago",), [0, 2, 3]), (("chance", 0), [0, 1, 6]),
            (("two", 0, 0), [0, 2, 27]), (("mean", 0, 6), [0, 1, 1]), (("then", 0, 6), [0, 4, 1]),
            (("one", 2), [0, 22, 27]), (("likeliest", 1, 2), [2]), (("more", 1), [-16]), (("back",), [1]),
            (("told",), [2, 1, 2, 3, 0]), (("was",), [0]), (("ago",), [0, 1, 1]), (("more", 1), [3]),
            (("colour", 4), [2]), (("told",), [3, 1, 2, 4, 1, 0]), (("back",), [-12]),
        ])

    def test_all_rows_of_none(self):
        for more in range(6):
            self.check(urn(more, 4, 0), [(("all", 0, 0), [1, 1]), (("all", 1, 0), [1, 1])])


if __name__ == "__main__":
    unittest.main()
