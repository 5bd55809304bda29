"""Chances of courses and the mean of what they cost (14.1 to 14.3)."""

from math import lcm

from coverterms.checks import KINDS, check_number, is_number, is_tuple
from coverterms.comparing import check_parts
from coverterms.courses import check_course
from coverterms.days import check_kind
from coverterms.errors import InvalidWeights
from coverterms.graphs import graph_by_order
from coverterms.parts import check_part
from coverterms.ratios import is_less, reduced
from coverterms.rules import fresh_state, possible_events, state_by_order

GREATEST_WEIGHT = 9
MOST_DAYS = 12


def is_weights(part, candidate):
    """Return whether candidate is weights of the part."""
    check_part(part)
    price, lives, most, terms = part
    if not is_tuple(candidate, 2, 2):
        return False
    quiet, rows = candidate
    if not is_weight(quiet) or not is_tuple(rows, len(lives), len(lives)):
        return False
    return all([is_weight(weight) for weight in rows])


def is_weight(candidate):
    """Return whether candidate is the weight of an event."""
    return is_number(candidate, 1, GREATEST_WEIGHT)


def check_weights(part, weights):
    """Raise InvalidPart or InvalidWeights if one of the two is not what it should be."""
    if not is_weights(part, weights):
        raise InvalidWeights("not weights of the part")


def weights_by_event(part, weights):
    """Return a dict from the events to their weights."""
    price, lives, most, terms = part
    quiet, rows = weights
    found = {"": quiet}
    for (kind, least), weight in zip(lives, rows):
        found[kind] = weight
    return found


def chance_of(part, weights, course):
    """Return the chance that the days of the course have just its events."""
    check_weights(part, weights)
    check_course(part, course)
    weight_of = weights_by_event(part, weights)
    numerator = 1
    denominator = 1
    state = fresh_state(part)
    for event in course:
        numerator *= weight_of[event]
        denominator *= sum([weight_of[other] for other in possible_events(part, state)])
        state = state_by_order(part, state, event)
    return reduced(numerator, denominator)


def weighed_moves(part, weights):
    """Return the (share, event, paid, number of the state after) of each state, and the whole.

    The chance of a move is its share of the whole, which is the same for all states.
    """
    nodes, moves = graph_by_order(part)
    weight_of = weights_by_event(part, weights)
    sums = [sum([weight_of[event] for event, paid, after in row]) for row in moves]
    whole = 1
    for total in sums:
        whole = lcm(whole, total)
    shares = [
        [(weight_of[event] * (whole // total), event, paid, after) for event, paid, after in row]
        for row, total in zip(moves, sums)
    ]
    return shares, whole


def chance_without(part, weights, many, kinds):
    """Return the chance that in so many days no fault of the kinds is left to the owner.

    It is returned as a numerator and a denominator that may have common divisors.
    """
    shares, whole = weighed_moves(part, weights)
    good = [
        [(share, after) for share, event, paid, after in row if paid == 0 or event not in kinds]
        for row in shares
    ]
    chances = [1 for row in good]
    denominator = 1
    for _ in range(many):
        chances = [sum([share * chances[after] for share, after in row]) for row in good]
        denominator *= whole
    return chances[0], denominator


def chance_free(part, weights, many):
    """Return the chance that so many days cost the owner nothing."""
    check_weights(part, weights)
    check_number(many, 0, MOST_DAYS)
    chance, denominator = chance_without(part, weights, many, KINDS)
    return reduced(chance, denominator)


def chance_left(part, weights, kind, many):
    """Return the chance that within so many days a fault of the kind is left to the owner."""
    check_weights(part, weights)
    check_kind(kind)
    check_number(many, 0, MOST_DAYS)
    chance, denominator = chance_without(part, weights, many, (kind,))
    return reduced(denominator - chance, denominator)


def mean_cost(part, weights, many):
    """Return the mean of the cost of so many days."""
    check_weights(part, weights)
    check_number(many, 0, MOST_DAYS)
    shares, whole = weighed_moves(part, weights)
    costs = [0 for row in shares]
    denominator = 1
    for _ in range(many):
        costs = [
            sum([share * (paid * denominator + costs[after]) for share, event, paid, after in row])
            for row in shares
        ]
        denominator *= whole
    return reduced(costs[0], denominator)


def cheaper_on_average(one, other, weights, many):
    """Return "one" or "other", whichever has the lesser mean cost of so many days, or "same"."""
    check_parts(one, other)
    mean = mean_cost(one, weights, many)
    other_mean = mean_cost(other, weights, many)
    if mean == other_mean:
        return "same"
    return "one" if is_less(mean, other_mean) else "other"
