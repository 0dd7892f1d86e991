"""An urn whose balls are put back with more of their colour, and the calls on it."""

NO_SUCH_COLOUR = -2
NO_BALLS = -6
NOT_BEGUN = -11
NOTHING_DRAWN = -12
ALREADY_DRAWN = -16
OUT_OF_RANGE = -22
FULL = -28
NONE_OF_IT = -33

MOST_MORE = 5
MOST_BALLS = 10
MOST_COLOURS = 4
MOST_DRAWN = 60
MOST_AHEAD = 1000
LONGEST_ROW = 6
MOST_COUNTED = 8
MOST_LOOKED_BACK = 20


class Urn:
    """How many balls of each colour there are now, what more is, and the colours drawn so far."""

    def __init__(self):
        self.begun = False
        self.more = 0
        self.balls = []
        self.drawn = []


def greatest_common(a, b):
    while b > 0:
        rest = a % b
        a = b
        b = rest
    return a


def fraction(above, below):
    """The answer that tells above out of below, with nothing in common."""
    common = greatest_common(above, below)
    return [0, above // common, below // common]


def rising(start, step, n):
    """start, and each time step more, n of these multiplied: how heavy n draws of one colour are."""
    product = 1
    for k in range(n):
        product = product * (start + step * k)
    return product


def orders(wanted):
    """In how many orders a row can have so many of each."""
    ways = 1
    placed = 0
    for how_many in wanted:
        for k in range(how_many):
            placed = placed + 1
            # No rest is lost: ways times a binomial number stands here each time.
            ways = ways * placed // (k + 1)
    return ways


def weight_of_row(balls, more, colours):
    # The urn itself isn't drawn from: the row is only thought of.
    there = list(balls)
    weight = 1
    for i in colours:
        weight = weight * there[i]
        there[i] = there[i] + more
    return weight


def likely_row(balls, more, colours):
    """The answer that tells how likely just this row is, from so many balls of each on."""
    return fraction(weight_of_row(balls, more, colours), rising(sum(balls), more, len(colours)))


def weight_of_counts(balls, more, wanted):
    """How heavy all rows with so many of each are, together."""
    weight = orders(wanted)
    for start, how_many in zip(balls, wanted):
        weight = weight * rising(start, more, how_many)
    return weight


def weight_of_just(urn, i, n, k):
    """How heavy all rows of n draws with just k of colour i are, together; k is at most n."""
    # All other colours may stand as one: whichever of them is drawn, together they gain the same.
    others = sum(urn.balls) - urn.balls[i]
    return weight_of_counts((urn.balls[i], others), urn.more, (k, n - k))


def weights_by_number(urn, i, n):
    """For 0 to n how heavy all rows of n draws with so many of colour i are, together."""
    return [weight_of_just(urn, i, n, k) for k in range(n + 1)]


def weight_of_all(urn, n):
    return rising(sum(urn.balls), urn.more, n)


def balls_at_first(urn):
    """How many balls of each colour there were before anything was drawn."""
    balls = list(urn.balls)
    for i in urn.drawn:
        balls[i] = balls[i] - urn.more
    return balls


def refusal_of_colour(urn, i):
    """What a call that asks how likely colour i is must be refused with, or 0."""
    if sum(urn.balls) == 0:
        return NO_BALLS
    if i >= len(urn.balls):
        return NO_SUCH_COLOUR
    return 0


def refusal_of_draws(urn, i, n, most):
    """Likewise for a call that asks for colour i in n draws, which may be most at most."""
    refusal = refusal_of_colour(urn, i)
    if refusal == 0 and n > most:
        return OUT_OF_RANGE
    return refusal


def begin(urn, given):
    if given[0] > MOST_MORE:
        return [OUT_OF_RANGE]
    urn.begun = True
    urn.more = given[0]
    urn.balls = []
    urn.drawn = []
    return [0]


def colour(urn, given):
    if len(urn.drawn) > 0:
        return [ALREADY_DRAWN]
    if given[0] > MOST_BALLS:
        return [OUT_OF_RANGE]
    if len(urn.balls) == MOST_COLOURS:
        return [FULL]
    urn.balls.append(given[0])
    return [len(urn.balls) - 1]


def draw(urn, given):
    i = given[0]
    if i >= len(urn.balls):
        return [NO_SUCH_COLOUR]
    if urn.balls[i] == 0:
        return [NONE_OF_IT]
    if len(urn.drawn) == MOST_DRAWN:
        return [FULL]
    urn.drawn.append(i)
    urn.balls[i] = urn.balls[i] + urn.more
    return [urn.balls[i]]


def back(urn, given):
    if len(urn.drawn) == 0:
        return [NOTHING_DRAWN]
    i = urn.drawn.pop()
    urn.balls[i] = urn.balls[i] - urn.more
    return [i]


def chance(urn, given):
    i = given[0]
    refusal = refusal_of_colour(urn, i)
    if refusal < 0:
        return [refusal]
    return fraction(urn.balls[i], sum(urn.balls))


def nth(urn, given):
    refusal = refusal_of_draws(urn, given[0], given[1], MOST_AHEAD)
    if refusal < 0:
        return [refusal]
    if given[1] == 0:
        return [OUT_OF_RANGE]
    # Each draw is as likely as the first, so n is only looked at for its refusal.
    return chance(urn, given)


def row(urn, given):
    n = given[0]
    if sum(urn.balls) == 0:
        return [NO_BALLS]
    if n > LONGEST_ROW:
        return [OUT_OF_RANGE]
    colours = given[1:n + 1]
    if any([i >= len(urn.balls) for i in colours]):
        return [OUT_OF_RANGE]
    return likely_row(urn.balls, urn.more, colours)


def counts(urn, given):
    if sum(urn.balls) == 0:
        return [NO_BALLS]
    wanted = given[:len(urn.balls)]
    n = sum(wanted)
    if n > MOST_COUNTED:
        return [OUT_OF_RANGE]
    return fraction(weight_of_counts(urn.balls, urn.more, wanted), weight_of_all(urn, n))


def just(urn, given):
    i = given[0]
    n = given[1]
    k = given[2]
    refusal = refusal_of_draws(urn, i, n, MOST_COUNTED)
    if refusal < 0:
        return [refusal]
    if k > n:
        return fraction(0, 1)
    return fraction(weight_of_just(urn, i, n, k), weight_of_all(urn, n))


def all_rows(urn, given):
    i = given[0]
    n = given[1]
    refusal = refusal_of_draws(urn, i, n, MOST_COUNTED)
    if refusal < 0:
        return [refusal]
    return [n + 1] + weights_by_number(urn, i, n)


def two(urn, given):
    for i in given:
        refusal = refusal_of_colour(urn, i)
        if refusal < 0:
            return [refusal]
    return likely_row(urn.balls, urn.more, given)


def mean(urn, given):
    i = given[0]
    n = given[1]
    refusal = refusal_of_draws(urn, i, n, MOST_AHEAD)
    if refusal < 0:
        return [refusal]
    # Each draw is as likely as the first, so each adds as much to the average.
    return fraction(n * urn.balls[i], sum(urn.balls))


def then(urn, given):
    i = given[0]
    n = given[1]
    refusal = refusal_of_draws(urn, i, n, MOST_AHEAD)
    if refusal < 0:
        return [refusal]
    # On the average a colour keeps its part of all balls, and how many these will be is certain.
    total = sum(urn.balls)
    return fraction(urn.balls[i] * (total + urn.more * n), total)


def likeliest(urn, given):
    i = given[0]
    n = given[1]
    refusal = refusal_of_draws(urn, i, n, MOST_COUNTED)
    if refusal < 0:
        return [refusal]
    weights = weights_by_number(urn, i, n)
    return [weights.index(max(weights))]


def one(urn, given):
    n = given[0]
    if sum(urn.balls) == 0:
        return [NO_BALLS]
    if n > MOST_COUNTED:
        return [OUT_OF_RANGE]
    # The row of no draws fits every colour, and must not be counted once for each.
    if n == 0:
        return fraction(1, 1)
    return fraction(sum([rising(start, urn.more, n) for start in urn.balls]), weight_of_all(urn, n))


def set_more(urn, given):
    if len(urn.drawn) > 0:
        return [ALREADY_DRAWN]
    if given[0] > MOST_MORE:
        return [OUT_OF_RANGE]
    before = urn.more
    urn.more = given[0]
    return [before]


def was(urn, given):
    return [len(urn.drawn)] + urn.drawn


def ago(urn, given):
    if sum(urn.balls) == 0:
        return [NO_BALLS]
    if len(urn.drawn) > MOST_LOOKED_BACK:
        return [FULL]
    return likely_row(balls_at_first(urn), urn.more, urn.drawn)


def told(urn, given):
    return [len(urn.balls)] + urn.balls + [urn.more, len(urn.drawn)]


# By a call's number: how many numbers it is handed, and what answers it.
CALLS = (
    (1, begin),
    (1, colour),
    (1, draw),
    (0, back),
    (1, chance),
    (2, nth),
    (7, row),
    (4, counts),
    (3, just),
    (2, all_rows),
    (2, two),
    (2, mean),
    (2, then),
    (2, likeliest),
    (1, one),
    (1, set_more),
    (0, was),
    (0, ago),
    (0, told),
)
BEGIN = 0


def answer_one(urn, number, given):
    if number != BEGIN and not urn.begun:
        return [NOT_BEGUN]
    return CALLS[number][1](urn, given)


def answers(calls):
    """What the calls, one behind another in one list, are answered on a new urn: each count, then its numbers."""
    urn = Urn()
    result = []
    place = 0
    while place < len(calls):
        number = calls[place]
        behind = place + 1 + CALLS[number][0]
        answer = answer_one(urn, number, calls[place + 1:behind])
        result.append(len(answer))
        result.extend(answer)
        place = behind
    return result
