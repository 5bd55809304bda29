"""What a day costs in the long run (8.1, 8.2)."""

from coverterms.errors import InvalidRound
from coverterms.extremes import GREATEST, LEAST
from coverterms.graphs import graph_by_order, most_paid
from coverterms.keeping import is_round
from coverterms.parts import check_part
from coverterms.ratios import is_less, reduced
from coverterms.rules import fresh_state, paid_on_days, state_after_days


def mean_of(part, candidate):
    """Return the mean of the round."""
    if not is_round(part, candidate):
        raise InvalidRound("not a round of the part")
    begin, loop = candidate
    state = state_after_days(part, fresh_state(part), begin)
    return reduced(paid_on_days(part, state, loop), len(loop))


def least_gain(rows, number):
    """Return the least mean of the last days, in which the costs from a node have grown."""
    many = len(rows) - 1
    least = (rows[many][number] - rows[0][number], many)
    for days in range(1, many):
        gain = (rows[many][number] - rows[days][number], many - days)
        if is_less(gain, least):
            least = gain
    return least


def extreme_mean(part, sign):
    """Return the greatest or the least mean of the rounds of the part.

    This is Karp's theorem, with as many days as there are nodes: the greatest of the least
    gains is the greatest mean of a circle. A round is made of circles, and the mean of one
    of them is not less than its own.
    """
    check_part(part)
    nodes, moves = graph_by_order(part)
    rows = most_paid(moves, len(moves), sign)
    most = least_gain(rows, 0)
    for number in range(1, len(moves)):
        gain = least_gain(rows, number)
        if is_less(most, gain):
            most = gain
    numerator, denominator = most
    return reduced(sign * numerator, denominator)


def greatest_mean(part):
    """Return the greatest mean of the rounds of the part."""
    return extreme_mean(part, GREATEST)


def least_mean(part):
    """Return the least mean of the rounds of the part."""
    return extreme_mean(part, LEAST)
