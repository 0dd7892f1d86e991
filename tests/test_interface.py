"""The interface: one list in, one list out, nothing changed and nothing kept."""

import ast
import unittest
from pathlib import Path

from givenback import urn as module
from givenback.urn import answers
from helper import GREATEST, ask, counts_call, draws, line, row_call, urn

EVERY_CALL = line(
    *urn(2, 1, 3, 0), *draws(0, 1, 2, 9), ("back",), ("chance", 0), ("nth", 1, 1000), row_call(0, 1),
    counts_call(1, 2, 0), ("just", 0, 4, 2), ("all", 1, 8), ("two", 0, 1), ("mean", 1, 7), ("then", 1, 7),
    ("likeliest", 1, 8), ("one", 5), ("more", 3), ("was",), ("ago",), ("told",),
    ("begin", 9), ("begin", 0), ("more", 5), ("colour", 4), ("all", 0, 0), ("was",), ("ago",), ("told",),
)


class Watched(list):
    """A list that tells when it's changed."""

    def refuse(self, *given):
        raise AssertionError("the list handed in is changed")

    append = extend = insert = pop = remove = clear = sort = reverse = refuse
    __setitem__ = __delitem__ = __iadd__ = __imul__ = refuse


class Interface(unittest.TestCase):
    def test_how_many_numbers_stand_ahead_of_them(self):
        calls = [0, 1, 1, 1, 1, 2, 2, 0, 4, 0, 5, 1, 3, 6, 2, 0, 1, 7, 7, 7, 7, 7, 1, 1, 9, 9, 8, 0, 1, 1, 9, 0, 1, 3, 3]
        self.assertEqual(answers(calls), [
            1, 0, 1, 0, 1, 1, 1, 2, 3, 0, 1, 2, 3, 0, 1, 2, 3, 0, 1, 5, 3, 0, 2, 5, 3, 0, 1, 2, 3, 2, 2, 2, 1, 0, 1, -12,
        ])

        calls = [0, 4, 15, 1, 1, 1, 1, 2, 2, 0, 10, 0, 1, 11, 1, 6, 12, 0, 3, 13, 1, 2, 14, 2, 15, 3, 16, 17, 18, 3, 16]
        self.assertEqual(answers(calls), [
            1, 0, 1, 4, 1, 0, 1, 1, 1, 2, 3, 0, 1, 5, 3, 0, 3, 1, 3, 0, 7, 2, 1, 1, 3, 0, 3, 5, 1, -16, 2, 1, 0,
            3, 0, 1, 3, 5, 2, 2, 2, 1, 1, 1, 0, 1, 0,
        ])

    def test_one_call(self):
        self.assertEqual(answers([3]), [1, -11])
        for alone in (16, 17, 18):
            self.assertEqual(answers([alone]), [1, -11])
        self.assertEqual(answers([0, 5]), [1, 0])
        self.assertEqual(answers([0, GREATEST]), [1, -22])

    def test_eighty_calls(self):
        calls = urn(5, 10, 10) + draws(*[0, 1] * 30) + [row_call(0, 1, 0, 1, 0, 1)] * 17
        told = ask(*calls)
        self.assertEqual(len(told), 80)
        self.assertEqual(told[-17:], [told[-1]] * 17)
        self.assertEqual(len(told[-1]), 3)

    def test_seven_hundred_numbers(self):
        calls = line(*urn(5, 10, 10)) + line(row_call(0, 1, 0, 1, 0, 1)) * 77 + line(*[("one", 8)] * 39)
        self.assertEqual(len(calls), 700)
        self.assertEqual(answers(calls)[-4:], answers(line(*urn(5, 10, 10), ("one", 8)))[-4:])

    def test_sixty_draws_told_over_and_over(self):
        told = ask(*urn(1, 1, 1), *draws(*[0, 1] * 30), *[("was",)] * 17)
        self.assertEqual(len(told), 80)
        self.assertEqual(told[-17:], [[60] + [0, 1] * 30] * 17)

    def test_greatest_numbers_everywhere(self):
        for call in (("nth", 0, GREATEST), ("row",) + (GREATEST,) * 7, ("counts",) + (GREATEST,) * 4,
                     ("just", 0, GREATEST, GREATEST), ("all", 0, GREATEST), ("mean", 0, GREATEST),
                     ("then", 0, GREATEST), ("likeliest", 0, GREATEST), ("one", GREATEST), ("more", GREATEST)):
            self.assertEqual(ask(*urn(1, 1), call)[-1], [-22])
        for call in (("draw", GREATEST), ("chance", GREATEST), ("nth", GREATEST, GREATEST),
                     ("just",) + (GREATEST,) * 3, ("all", GREATEST, GREATEST), ("two", GREATEST, GREATEST),
                     ("mean", GREATEST, GREATEST), ("then", GREATEST, GREATEST), ("likeliest", GREATEST, GREATEST)):
            self.assertEqual(ask(*urn(1, 1), call)[-1], [-2])

    def test_what_is_handed_in_is_not_changed(self):
        calls = list(EVERY_CALL)
        answers(calls)
        self.assertEqual(calls, EVERY_CALL)
        self.assertEqual(answers(Watched(EVERY_CALL)), answers(EVERY_CALL))

    def test_a_second_time_answers_like_the_first(self):
        first = answers(EVERY_CALL)
        kept = list(first)
        first.append(1)
        self.assertEqual(answers(EVERY_CALL), kept)
        self.assertEqual(answers([4, 0]), [1, -11])
        self.assertEqual(answers([18, 0, 3, 18]), [1, -11, 1, 0, 3, 0, 3, 0])
        self.assertEqual(answers(EVERY_CALL), kept)

    def test_what_is_given_back_is_a_list_of_whole_numbers(self):
        told = answers(EVERY_CALL)
        self.assertIs(type(told), list)
        self.assertEqual({type(number) for number in told}, {int})

    def test_a_refusal_changes_nothing(self):
        asked = [("told",), ("was",), ("ago",), ("chance", 0), ("all", 1, 8), ("back",), ("draw", 1)]
        refused = [("begin", 6), ("colour", 1), ("draw", 2), ("draw", 4), ("chance", 9), ("nth", 0, 0),
                   ("row", 7, 0, 0, 0, 0, 0, 0), ("counts", 9, 9, 9, 9), ("just", 0, 9, 0), ("all", 0, 9),
                   ("two", 0, 3), ("mean", 0, 1001), ("then", 3, 1), ("likeliest", 0, 9), ("one", 9), ("more", 1)]
        made = urn(3, 1, 2, 0) + draws(0, 1)
        self.assertTrue(all(len(told) == 1 and told[0] < 0 for told in ask(*made, *refused)[len(made):]))
        self.assertEqual(ask(*made, *refused, *asked)[-len(asked):], ask(*made, *asked)[-len(asked):])
        many = made + draws(*[0] * 19)
        self.assertEqual(ask(*many, ("ago",), ("told",), ("was",))[-3:],
                         [[-28], [3, 61, 5, 0, 3, 21], [21, 0, 1] + [0] * 19])

    def test_it_imports_nothing_and_names_only_what_is_let(self):
        tree = ast.parse(Path(module.__file__).read_text(encoding="ascii"))
        for node in ast.walk(tree):
            self.assertNotIsInstance(node, (ast.Import, ast.ImportFrom))
            if isinstance(node, ast.Name):
                self.assertNotIn(node.id, ("print", "open", "input", "float", "eval", "exec"))


if __name__ == "__main__":
    unittest.main()
