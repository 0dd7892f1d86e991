"""What the tests share: calls by their names, and an urn that is worked out row by row."""

from fractions import Fraction
from itertools import product

from givenback.urn import answers

GREATEST = 4294967295

NUMBERS = {
    "begin": 0,
    "colour": 1,
    "draw": 2,
    "back": 3,
    "chance": 4,
    "nth": 5,
    "row": 6,
    "counts": 7,
    "just": 8,
    "all": 9,
    "two": 10,
    "mean": 11,
    "then": 12,
    "likeliest": 13,
    "one": 14,
    "more": 15,
    "was": 16,
    "ago": 17,
    "told": 18,
}


def line(*calls):
    """The one list that holds these calls, each a tuple of its name and its numbers."""
    numbers = []
    for call in calls:
        numbers.append(NUMBERS[call[0]])
        numbers.extend(call[1:])
    return numbers


def split(told):
    """The answers, each a list of its own."""
    apart = []
    place = 0
    while place < len(told):
        behind = place + 1 + told[place]
        apart.append(told[place + 1:behind])
        place = behind
    return apart


def ask(*calls):
    apart = split(answers(line(*calls)))
    if len(apart) != len(calls):
        raise AssertionError(f"{len(calls)} calls, {len(apart)} answers")
    return apart


def last(*calls):
    return ask(*calls)[-1]


def urn(more, *balls):
    """The calls that make an urn."""
    return [("begin", more)] + [("colour", n) for n in balls]


def draws(*colours):
    return [("draw", i) for i in colours]


def row_call(*colours):
    """The call row for these colours; what isn't meant is a number that is no colour."""
    return ("row", len(colours), *colours) + (GREATEST,) * (6 - len(colours))


def counts_call(*wanted):
    """Likewise the call counts."""
    return ("counts", *wanted) + (GREATEST,) * (4 - len(wanted))


def as_fraction(answer):
    """The fraction of an answer, which must be in the form that the document tells."""
    zero, above, below = answer
    whole = Fraction(above, below)
    if zero != 0 or below < 1 or (whole.numerator, whole.denominator) != (above, below):
        raise AssertionError(f"{answer} is no fraction in its lowest terms")
    return whole


def told(whole):
    """The answer that tells this fraction."""
    whole = Fraction(whole)
    return [0, whole.numerator, whole.denominator]


def weight(balls, more, colours):
    """How heavy a row is, draw by draw."""
    there = list(balls)
    heavy = 1
    for i in colours:
        heavy *= there[i]
        there[i] += more
    return heavy


def all_weights(balls, more, n):
    """Each row of n draws, with how heavy it is."""
    return [(colours, weight(balls, more, colours)) for colours in product(range(len(balls)), repeat=n)]


def likely(balls, more, n, fits):
    """How likely a row of n draws fits, row by row."""
    rows = all_weights(balls, more, n)
    fitting = sum(heavy for colours, heavy in rows if fits(colours))
    return Fraction(fitting, sum(heavy for colours, heavy in rows))


def average(balls, more, n, worth):
    """What a row of n draws is worth on the average, row by row."""
    rows = all_weights(balls, more, n)
    return Fraction(sum(heavy * worth(colours) for colours, heavy in rows), sum(heavy for colours, heavy in rows))


# Urns of every more and of one to four colours, some with a colour of which there's none.
URNS = [
    (more, balls)
    for more in range(6)
    for balls in ((1,), (10,), (1, 1), (0, 3), (2, 5), (1, 1, 1), (4, 0, 6), (10, 10, 10), (1, 2, 3, 4), (0, 0, 7, 1))
]
