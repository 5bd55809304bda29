"""What a day costs in the long run: 8.1, 8.2 and fractions (0.4)."""

import fractions
import unittest

from coverterms.errors import InvalidPart, InvalidRound, TooLarge
from coverterms.keeping import free_round
from coverterms.means import greatest_mean, least_mean, mean_of
from coverterms.ratios import is_less, reduced
from tests.samples import BARE, DEEP, DEEP_LIST, FULL, HUGE, KEPT, LONG, NARROW, ODD, OVER, PUMP
from tests.samples import WIDE, random_parts, small_parts
from tests.slow import beginning, closure, days_from, follow
from tests.wrong import BAD_COURSES, BAD_PARTS, at, check_errors


def circle_means(part):
    """Return the greatest and the least mean of closed walks of up to as many days as states."""
    states = sorted(closure(part))
    moves = {
        state: [(part[0] if payer == "" else 0, after)
                for event, payer, after in days_from(part, state)]
        for state in states
    }
    means = []
    for first in states:
        most, least = {first: 0}, {first: 0}
        for many in range(1, len(states) + 1):
            most = longer(moves, most, max)
            least = longer(moves, least, min)
            if first in most:
                means.append(fractions.Fraction(most[first], many))
                means.append(fractions.Fraction(least[first], many))
    return max(means), min(means)


def longer(moves, costs, choose):
    """Return the chosen cost of one day more to each state."""
    found = {}
    for state, cost in costs.items():
        for paid, after in moves[state]:
            found[after] = choose(found.get(after, cost + paid), cost + paid)
    return found


def pair(fraction):
    return (fraction.numerator, fraction.denominator)


def has_less(part, mean):
    """Return whether some circle has a mean that is less than the fraction."""
    moves = [
        (state, after, (part[0] if payer == "" else 0) * mean.denominator - mean.numerator)
        for state in sorted(closure(part)) for event, payer, after in days_from(part, state)
    ]
    least = {state: 0 for state, after, cost in moves}
    for _ in range(len(least) + 1):
        changed = False
        for state, after, cost in moves:
            if least[state] + cost < least[after]:
                least[after] = least[state] + cost
                changed = True
        if not changed:
            return False
    return True


class MeanOf(unittest.TestCase):
    def test_example(self):
        self.assertEqual(mean_of(BARE, (("b",), ("b",))), (5, 1))

    def test_ordinary(self):
        for loop, want in [
            (("", "b"), (5, 2)), (("", "", "a"), (5, 3)), (("b", "b"), (5, 1)),
            (("b", "", "b"), (10, 3)), (("", "", "b", "", "b", "b"), (5, 2)),
        ]:
            self.assertEqual(mean_of(BARE, (("b",), loop)), want)

    def test_what_the_beginning_costs_does_not_count(self):
        self.assertEqual(mean_of(NARROW, (("c", "c"), ("",))), (0, 1))
        self.assertEqual(mean_of(NARROW, ((), ("", "c"))), (1, 2))
        self.assertEqual(mean_of(KEPT, (("a",), ("a", "a"))), (0, 1))

    def test_without_a_common_divisor(self):
        part = (12, (("a", 0),), 0, ())
        for free, paid, want in [(7, 1, (3, 2)), (8, 1, (4, 3)), (9, 3, (3, 1)), (59, 1, (1, 5)),
                                 (0, 60, (12, 1)), (60, 0, (0, 1)), (1, 1, (6, 1)), (4, 1, (12, 5))]:
            self.assertEqual(mean_of(part, ((), ("",) * free + ("a",) * paid)), want)

    def test_from_the_state_after_the_beginning_on(self):
        # In the loop itself a payer pays every other fault; at the beginning nobody does.
        part = (3, (("a", 0),), 0, (("x", 6, "a", "anew", 1, True),))
        self.assertEqual(mean_of(part, (("a", "a"), ("a", "a"))), (3, 2))
        self.assertEqual(mean_of(part, (("a",), ("a", "a"))), (3, 2))

    def test_against_the_slow_way(self):
        found = 0
        for part in small_parts(51, 200):
            round_found = free_round(part)
            for begin, loop in [round_found] if round_found else []:
                self.assertEqual(mean_of(part, (begin, loop)), (0, 1))
                found += 1
            for event in "abc":
                state = after(part, (event,) * 9)
                if state is not None and after(part, (event,) * 10) == state:
                    cost = follow(part, state, (event,))[1]
                    self.assertEqual(mean_of(part, ((event,) * 9, (event,) * 4)), (cost, 1))
                    found += 1
        self.assertGreater(found, 100)

    def test_exceptions_in_order(self):
        wrong = ODD + [
            [("b",), ("b",)], (("b",),), (("b",), ("b",), ("b",)), ("b", "b"), (("b",), ()),
            ((), ("b",)), (("b",), ("",)), (("b",), ("b",) * 61), (("b",) * 61, ("b",)),
            (("b",), ("c",)), (("b",), ("", "", "", "b")), (("b",), None), (None, ("b",)),
            (("b",), ["b"]), (["b"], ("b",)), (("b",), DEEP), (("b",), DEEP_LIST), (("b",), "b"),
        ] + [(begin, ("b",)) for begin in BAD_COURSES]
        for good in [(("b",), ("b",)), (("b",) * 60, ("b",) * 60)]:
            check_errors(self, mean_of, (BARE, good), [
                (InvalidPart, at(0, BAD_PARTS)), (InvalidRound, at(1, wrong))])
        with self.assertRaises(InvalidRound):
            mean_of(PUMP, ((), ()))


def after(part, course):
    """Return the state after a course, None if it is not one."""
    state = beginning(part)
    for event in course:
        following = {one: left for one, payer, left in days_from(part, state)}
        if event not in following:
            return None
        state = following[event]
    return state


class Means(unittest.TestCase):
    def test_example(self):
        self.assertEqual(least_mean(BARE), (5, 3))

    def test_ordinary(self):
        self.assertEqual(greatest_mean(BARE), (5, 1))
        self.assertEqual(greatest_mean(KEPT), (0, 1))
        self.assertEqual(least_mean(KEPT), (0, 1))
        self.assertEqual(greatest_mean(NARROW), (1, 1))
        self.assertEqual(least_mean(NARROW), (0, 1))
        # The owner buys; the seller pays once, as late as it can; then the owner buys again.
        self.assertEqual(least_mean(PUMP), (1, 1))
        self.assertEqual(greatest_mean(PUMP), (5, 1))

    def test_life_and_most(self):
        for price in (1, 6, 20):
            for least in range(1, 7):
                for most in [0] + list(range(least, 9)):
                    part = (price, (("b", least),), most, ())
                    want = fractions.Fraction(price, least)
                    self.assertEqual(greatest_mean(part), pair(want))
                    want = fractions.Fraction(price, most) if most else 0
                    self.assertEqual(least_mean(part), pair(fractions.Fraction(want)))

    def test_a_costly_way_to_a_cheap_round_does_not_count(self):
        # Only the first faults cost nothing, and they can not be repeated.
        part = (9, (("a", 2),), 3, (("x", 6, "a", "anew", 2, False),))
        self.assertEqual(least_mean(part), (3, 1))
        self.assertEqual(greatest_mean(part), (9, 2))

    def test_against_the_slow_way(self):
        for part in small_parts(52, 250) + random_parts(53, 60) + [PUMP, WIDE, LONG]:
            if len(closure(part)) <= 60:
                most, least = circle_means(part)
                self.assertEqual(greatest_mean(part), pair(most))
                self.assertEqual(least_mean(part), pair(least))

    def test_400_states(self):
        self.assertEqual(greatest_mean(FULL), (10, 1))
        self.assertEqual(least_mean(FULL), (10, 13))

    def test_many_states_against_the_slow_way(self):
        for part in random_parts(55, 60) + [FULL]:
            many = len(closure(part))
            if 60 < many <= 400:
                # The means of two circles differ by at least the square of 1 / many.
                step = fractions.Fraction(1, many * many)
                least = fractions.Fraction(*least_mean(part))
                self.assertFalse(has_less(part, least))
                self.assertTrue(has_less(part, least + step))

    def test_free_for_ever_means_nothing_in_the_long_run(self):
        for part in small_parts(54, 150):
            self.assertEqual(least_mean(part) == (0, 1), free_round(part) is not None)

    def test_exceptions_in_order(self):
        wrong = [(InvalidPart, at(0, BAD_PARTS)), (TooLarge, at(0, [OVER, HUGE]))]
        check_errors(self, greatest_mean, (FULL,), wrong)
        check_errors(self, least_mean, (FULL,), wrong)


class Ratios(unittest.TestCase):
    def test_reduced(self):
        for numerator in range(0, 40):
            for denominator in range(1, 40):
                want = pair(fractions.Fraction(numerator, denominator))
                self.assertEqual(reduced(numerator, denominator), want)
                self.assertEqual(reduced(-numerator, denominator), (-want[0], want[1]))

    def test_is_less(self):
        values = [(top, low) for top in range(-4, 5) for low in range(1, 5)]
        for one in values:
            for other in values:
                want = fractions.Fraction(*one) < fractions.Fraction(*other)
                self.assertIs(is_less(one, other), want)
