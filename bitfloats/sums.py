"""Sums in told orders, each step rounded, and exact sums, rounded once."""

from bitfloats.exact import is_nothing, packed, plus, taken_apart, times, whole
from bitfloats.formats import with_sign
from bitfloats.operations import added, fused
from bitfloats.rounding import DOWN, NEAREST

LAST_ORDER = 4
EXACT_ORDER = 4
# How many lanes there are, by the order; from the left is by one lane.
LANES = (1, 2, 4, 8)


class Accumulator:
    """The exact sum of all that was taken since it was empty."""

    def __init__(self):
        self.total = whole(0)

    def make_empty(self):
        self.total = whole(0)

    def take(self, u):
        # A NaN and an infinity stay in a sum, whatever comes behind them, as they have to here.
        # The mode has a say in the sign of a 0 alone, which is settled where the sum is told.
        self.total = plus(self.total, u, NEAREST)

    def rounded_once(self, kind, mode):
        if is_nothing(self.total):
            return with_sign(kind, mode == DOWN, 0)
        return packed(kind, mode, self.total)


def exact_product(kind, a, b):
    return times(taken_apart(kind, a), taken_apart(kind, b))


def exact_sum(kind, mode, terms):
    accumulator = Accumulator()
    for term in terms:
        accumulator.take(term)
    return accumulator.rounded_once(kind, mode)


def sum_of_numbers(kind, order, mode, numbers):
    if order == EXACT_ORDER:
        return exact_sum(kind, mode, [taken_apart(kind, a) for a in numbers])
    lanes = empty_lanes(order)
    for turn, a in enumerate(numbers):
        lane = turn % len(lanes)
        lanes[lane] = added(kind, mode, lanes[lane], a)
    return lanes_together(kind, mode, lanes)


def sum_of_products(kind, order, mode, numbers, others):
    """The two lists are as long as one another."""
    if order == EXACT_ORDER:
        return exact_sum(kind, mode, [exact_product(kind, a, b) for a, b in zip(numbers, others)])
    lanes = empty_lanes(order)
    for turn, a in enumerate(numbers):
        lane = turn % len(lanes)
        lanes[lane] = fused(kind, mode, a, others[turn], lanes[lane])
    return lanes_together(kind, mode, lanes)


def empty_lanes(order):
    """Each lane begins with +0, whose bits are 0 in each kind."""
    return [0] * LANES[order]


def lanes_together(kind, mode, lanes):
    while len(lanes) > 1:
        half = len(lanes) // 2
        lanes = [added(kind, mode, a, b) for a, b in zip(lanes[:half], lanes[half:])]
    return lanes[0]
