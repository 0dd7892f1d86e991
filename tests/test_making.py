"""begin, colour, more, draw, back, was and told."""

import unittest

from helper import GREATEST, ask, draws, last, told, urn


class Begin(unittest.TestCase):
    def test_answers_0_for_0_to_5(self):
        for d in range(6):
            self.assertEqual(ask(("begin", d)), [[0]])

    def test_above_5_is_refused(self):
        for d in (6, 7, 1000, GREATEST):
            self.assertEqual(ask(("begin", d)), [[-22]])

    def test_all_else_is_refused_before_it(self):
        for call in (
            ("colour", 1), ("draw", 0), ("back",), ("chance", 0), ("nth", 0, 1), ("row", 0, 0, 0, 0, 0, 0, 0),
            ("counts", 0, 0, 0, 0), ("just", 0, 0, 0), ("all", 0, 0), ("two", 0, 0), ("mean", 0, 1), ("then", 0, 1),
            ("likeliest", 0, 1), ("one", 0), ("more", 1), ("was",), ("ago",), ("told",),
        ):
            with self.subTest(call=call):
                self.assertEqual(ask(call, ("begin", 1)), [[-11], [0]])

    def test_not_begun_goes_ahead_of_every_other_refusal(self):
        for call in (
            ("colour", 11), ("draw", 9), ("nth", 9, 0), ("row", 7, 9, 9, 9, 9, 9, 9), ("counts", 9, 9, 9, 9),
            ("just", 9, 9, 9), ("all", 9, 9), ("two", 9, 9), ("mean", 9, 1001), ("then", 9, 1001),
            ("likeliest", 9, 9), ("one", 9), ("more", 6),
        ):
            with self.subTest(call=call):
                self.assertEqual(ask(call), [[-11]])

    def test_a_refused_begin_does_not_begin(self):
        self.assertEqual(ask(("begin", 6), ("colour", 1), ("back",)), [[-22], [-11], [-11]])
        self.assertEqual(ask(("begin", 6), ("told",), ("more", 2), ("was",), ("begin", 1), ("told",)),
                         [[-22], [-11], [-11], [-11], [0], [0, 1, 0]])

    def test_what_is_refused_before_it_leaves_nothing(self):
        self.assertEqual(ask(("colour", 3), ("begin", 1), ("colour", 4)), [[-11], [0], [0]])

    def test_may_come_again(self):
        calls = urn(2, 1, 3) + draws(0, 1) + [("begin", 5), ("back",), ("chance", 0), ("colour", 2), ("draw", 0)]
        self.assertEqual(ask(*calls)[-5:], [[0], [-12], [-6], [0], [7]])

    def test_come_again_there_are_no_colours_and_nothing_is_drawn(self):
        calls = urn(2, 1, 3) + draws(0, 1) + [("begin", 5), ("told",), ("was",), ("more", 1)]
        self.assertEqual(ask(*calls)[-3:], [[0, 5, 0], [0], [5]])

    def test_a_refused_one_that_comes_again_changes_nothing(self):
        calls = urn(2, 1, 3) + draws(0) + [("begin", 6), ("chance", 0), ("draw", 0), ("back",), ("back",), ("back",)]
        self.assertEqual(ask(*calls)[-6:], [[-22], told(0.5), [5], [0], [0], [-12]])


class Colour(unittest.TestCase):
    def test_answers_its_number(self):
        self.assertEqual(ask(*urn(1, 0, 10, 3, 1)), [[0], [0], [1], [2], [3]])

    def test_above_10_is_refused(self):
        for n in (11, 12, GREATEST):
            self.assertEqual(ask(("begin", 0), ("colour", n), ("colour", 10)), [[0], [-22], [0]])

    def test_a_fifth_is_refused(self):
        self.assertEqual(ask(*urn(1, 1, 1, 1, 1), ("colour", 1), ("chance", 4), ("chance", 3))[-3:],
                         [[-28], [-2], [0, 1, 4]])

    def test_refused_once_something_was_drawn(self):
        self.assertEqual(ask(*urn(1, 1), ("draw", 0), ("colour", 1), ("chance", 1))[-2:], [[-16], [-2]])

    def test_which_refusal_comes_first(self):
        self.assertEqual(last(*urn(1, 1, 1, 1, 1), ("draw", 0), ("colour", 11)), [-16])
        self.assertEqual(last(*urn(1, 1, 1, 1, 1), ("draw", 0), ("colour", 1)), [-16])
        self.assertEqual(last(*urn(1, 1), ("draw", 0), ("colour", 11)), [-16])
        self.assertEqual(last(*urn(1, 1, 1, 1, 1), ("colour", 11)), [-22])

    def test_taken_again_once_all_draws_are_taken_back(self):
        self.assertEqual(ask(*urn(1, 1), *draws(0, 0), ("back",), ("colour", 1), ("back",), ("colour", 1))[-4:],
                         [[0], [-16], [0], [1]])

    def test_drawn_counts_where_more_is_none(self):
        self.assertEqual(last(*urn(0, 1), ("draw", 0), ("colour", 1)), [-16])


class Draw(unittest.TestCase):
    def test_answers_how_many_there_are_with_those_put_back(self):
        for more in range(6):
            self.assertEqual(ask(*urn(more, 3, 1), *draws(0, 1, 0))[-3:], [[3 + more], [1 + more], [3 + 2 * more]])

    def test_makes_only_its_own_colour_more(self):
        self.assertEqual(ask(*urn(5, 1, 2, 3), ("draw", 1), ("chance", 0), ("chance", 1), ("chance", 2))[-3:],
                         [[0, 1, 11], [0, 7, 11], [0, 3, 11]])

    def test_no_such_colour(self):
        for i in (2, 3, GREATEST):
            self.assertEqual(ask(*urn(1, 1, 1), ("draw", i), ("back",))[-2:], [[-2], [-12]])
        self.assertEqual(last(("begin", 1), ("draw", 0)), [-2])

    def test_none_of_it(self):
        self.assertEqual(ask(*urn(5, 0, 1), ("draw", 0), ("back",), ("chance", 0))[-3:], [[-33], [-12], [0, 0, 1]])

    def test_no_balls_at_all(self):
        self.assertEqual(last(*urn(5, 0), ("draw", 0)), [-33])
        self.assertEqual(last(*urn(5, 0), ("draw", 1)), [-2])

    def test_sixty_and_no_more(self):
        calls = urn(5, 10, 0) + draws(*[0] * 60)
        self.assertEqual(ask(*calls)[3:], [[10 + 5 * k] for k in range(1, 61)])
        self.assertEqual(ask(*calls, ("draw", 0), ("chance", 0), ("back",), ("draw", 0), ("draw", 0))[-5:],
                         [[-28], [0, 1, 1], [0], [310], [-28]])

    def test_sixty_where_more_is_none(self):
        self.assertEqual(ask(*urn(0, 1, 1), *draws(*[0, 1] * 30), ("draw", 1), ("chance", 0))[-3:],
                         [[1], [-28], [0, 1, 2]])

    def test_which_refusal_comes_first(self):
        calls = urn(1, 1, 0) + draws(*[0] * 60)
        self.assertEqual(ask(*calls, ("draw", 2), ("draw", 1), ("draw", 0))[-3:], [[-2], [-33], [-28]])


class Back(unittest.TestCase):
    def test_takes_back_the_last_first(self):
        self.assertEqual(ask(*urn(1, 1, 1, 1), *draws(2, 0, 1, 1), *[("back",)] * 5)[-5:],
                         [[1], [1], [0], [2], [-12]])

    def test_nothing_drawn(self):
        self.assertEqual(ask(("begin", 0), ("back",)), [[0], [-12]])
        self.assertEqual(last(*urn(1, 1), ("back",)), [-12])

    def test_takes_away_as_many_as_came(self):
        for more in range(6):
            self.assertEqual(ask(*urn(more, 2, 3), *draws(0, 1), ("back",), ("draw", 1), ("draw", 0))[-2:],
                             [[3 + more], [2 + 2 * more]])

    def test_all_sixty(self):
        calls = urn(5, 1) + draws(*[0] * 60)
        self.assertEqual(ask(*calls, *[("back",)] * 18)[-18:], [[0]] * 18)
        self.assertEqual(ask(*urn(5, 1), *draws(*[0] * 38), *[("back",)] * 39, ("draw", 0))[-40:],
                         [[0]] * 38 + [[-12], [6]])


class More(unittest.TestCase):
    def test_answers_what_it_was(self):
        calls = [("more", d) for d in (0, 5, 1, 4, 2, 3, 3)]
        self.assertEqual(ask(("begin", 2), *calls), [[0], [2], [0], [5], [1], [4], [2], [3]])

    def test_so_many_come_from_then_on(self):
        for d in range(6):
            self.assertEqual(ask(*urn(1, 3, 2), ("more", d), *draws(0, 1), ("back",), ("draw", 0), ("told",))[-6:],
                             [[1], [3 + d], [2 + d], [1], [3 + 2 * d], [2, 3 + 2 * d, 2, d, 2]])

    def test_ahead_of_any_colour_and_between_them(self):
        self.assertEqual(ask(("begin", 1), ("more", 2), ("colour", 4), ("more", 3), ("colour", 5), ("told",)),
                         [[0], [1], [0], [2], [1], [2, 4, 5, 3, 0]])

    def test_above_5_is_refused(self):
        for d in (6, 7, GREATEST):
            self.assertEqual(ask(*urn(4, 1), ("more", d), ("told",), ("draw", 0))[-3:], [[-22], [1, 1, 4, 0], [5]])

    def test_refused_once_something_was_drawn(self):
        for more in (0, 3):
            for d in (0, 3, 5):
                self.assertEqual(ask(*urn(more, 1), ("draw", 0), ("more", d), ("told",))[-2:],
                                 [[-16], [1, 1 + more, more, 1]])

    def test_which_refusal_comes_first(self):
        self.assertEqual(last(*urn(1, 1), ("draw", 0), ("more", 6)), [-16])
        self.assertEqual(last(*urn(1, 1), ("draw", 0), ("more", GREATEST)), [-16])

    def test_taken_again_once_all_draws_are_taken_back(self):
        calls = draws(0, 0) + [("back",), ("more", 5), ("back",), ("more", 5), ("draw", 0), ("back",), ("told",)]
        self.assertEqual(ask(*urn(1, 2), *calls)[-7:], [[0], [-16], [0], [1], [7], [0], [1, 2, 5, 0]])


class Was(unittest.TestCase):
    def test_how_many_then_their_colours_first_ahead(self):
        self.assertEqual(last(*urn(1, 1, 1, 1), *draws(2, 0, 1, 1), ("was",)), [4, 2, 0, 1, 1])

    def test_nothing_drawn(self):
        self.assertEqual(last(("begin", 1), ("was",)), [0])
        self.assertEqual(last(*urn(1, 1, 1), ("was",)), [0])
        self.assertEqual(last(*urn(1, 0), ("was",)), [0])

    def test_a_draw_taken_back_is_left_out(self):
        calls = draws(1, 0, 1) + [("back",), ("was",), ("back",), ("draw", 1), ("was",)]
        self.assertEqual(ask(*urn(0, 1, 1), *calls)[-4:], [[2, 1, 0], [0], [1], [2, 1, 1]])

    def test_a_refused_draw_is_left_out(self):
        self.assertEqual(last(*urn(1, 1, 0), *draws(0, 1, 2, 0), ("was",)), [2, 0, 0])

    def test_sixty(self):
        colours = [k * k % 4 for k in range(60)]
        calls = urn(5, 1, 1, 1, 1) + draws(*colours) + [("draw", 2), ("was",)]
        self.assertEqual(last(*calls), [60] + colours)

    def test_changes_nothing(self):
        self.assertEqual(ask(*urn(1, 1, 1), ("draw", 1), ("was",), ("was",), ("back",), ("was",))[-4:],
                         [[1, 1], [1, 1], [1], [0]])


class Told(unittest.TestCase):
    def test_colours_then_more_then_how_many_were_drawn(self):
        self.assertEqual(last(*urn(3, 1, 0, 7), ("told",)), [3, 1, 0, 7, 3, 0])
        self.assertEqual(last(*urn(3, 1, 0, 7), *draws(2, 0, 2), ("told",)), [3, 4, 0, 13, 3, 3])

    def test_no_colours(self):
        for d in range(6):
            self.assertEqual(last(("begin", d), ("told",)), [0, d, 0])

    def test_one_colour_and_four(self):
        self.assertEqual(last(*urn(0, 10), ("told",)), [1, 10, 0, 0])
        self.assertEqual(last(*urn(5, 4, 3, 2, 1), ("colour", 9), ("told",)), [4, 4, 3, 2, 1, 5, 0])

    def test_no_more(self):
        self.assertEqual(last(*urn(0, 2, 1), *draws(0, 0, 1), ("told",)), [2, 2, 1, 0, 3])

    def test_a_draw_taken_back(self):
        self.assertEqual(ask(*urn(2, 2, 1), *draws(0, 1), ("back",), ("told",), ("back",), ("told",))[-3:],
                         [[2, 4, 1, 2, 1], [0], [2, 2, 1, 2, 0]])

    def test_sixty(self):
        self.assertEqual(last(*urn(5, 10, 3), *draws(*[0] * 60), ("told",)), [2, 310, 3, 5, 60])


if __name__ == "__main__":
    unittest.main()
