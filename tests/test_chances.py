"""Chances: 14.1 to 14.3 and fractions (0.4)."""

import random
import unittest
from fractions import Fraction

from coverterms.chances import chance_free, chance_left, chance_of, cheaper_on_average
from coverterms.chances import is_weights, mean_cost
from coverterms.errors import InvalidCourse, InvalidKind, InvalidNumber, InvalidPart
from coverterms.errors import InvalidWeights, OtherLives, TooLarge
from coverterms.keeping import surely_free
from tests.samples import BARE, DEEP, DEEP_LIST, FULL, HUGE, KEPT, NARROW, ODD, OTHERS, OVER
from tests.samples import PUMP, WIDE, pairs_of, random_parts, small_parts
from tests.slow import beginning, closure, days_from, walks
from tests.test_means import pair
from tests.wrong import BAD_COURSES, BAD_KINDS, BAD_PARTS, at, bad_numbers, check_error
from tests.wrong import check_errors

WEIGHTS = (2, (1, 1))
NO_NUMBERS = [0, 10, -1, 10 ** 30, True, False, None, "", "1", (), (1,), [], [1], DEEP, DEEP_LIST]
# None of these is weights of PUMP.
BAD_WEIGHTS = ODD + [
    [2, (1, 1)], (2, [1, 1]), [2, [1, 1]], (2,), (2, ()), (2, (1,)), (2, (1, 1, 1)), ((1, 1), 2),
    (2, 1, 1), (2, (1, 1), 1), (2, 1), (2, None), (2, "11"), ("2", (1, 1)), (2, ("1", "1")),
    (2, ((1,), (1,))), ((2,), (1, 1)), (2, DEEP), (2, DEEP_LIST), (2, (1, DEEP)), (DEEP, (1, 1)),
] + [(number, (1, 1)) for number in NO_NUMBERS] + [(2, (1, number)) for number in NO_NUMBERS] + [
    (2, (number, 1)) for number in NO_NUMBERS]


def random_weights(source, part):
    return (source.randint(1, 9), tuple(source.randint(1, 9) for life in part[1]))


def chances(part, weights, state):
    """Return the (chance, event, payer, state after the day) of the days that can follow."""
    weight_of = dict(zip([kind for kind, least in part[1]], weights[1]))
    weight_of[""] = weights[0]
    days = days_from(part, state)
    whole = sum(weight_of[event] for event, payer, after in days)
    return [
        (Fraction(weight_of[event], whole), event, payer, after) for event, payer, after in days
    ]


def chance_by_days(part, weights, course):
    """Return the chance of a course, day by day."""
    chance, state = Fraction(1), beginning(part)
    for event in course:
        found = {one: (share, after) for share, one, payer, after in chances(part, weights, state)}
        share, state = found[event]
        chance *= share
    return chance


def all_chances(part, weights, many):
    """Return the (chance, cost, kinds that were left to the owner) of all courses."""
    return [
        (chance_by_days(part, weights, course), cost,
         {event for event, payer in zip(course, payers) if payer == ""})
        for course, cost, state, payers in walks(part, many)[many]
    ]


def spread(part, weights, many, forbidden):
    """Return the chance that no forbidden fault was left, and the mean cost, state by state."""
    level = {beginning(part): (Fraction(1), Fraction(0))}
    known = {}
    for _ in range(many):
        following = {}
        for state, (chance, cost) in level.items():
            if state not in known:
                known[state] = chances(part, weights, state)
            for share, event, payer, after in known[state]:
                if payer == "" and event in forbidden:
                    continue
                before = following.get(after, (Fraction(0), Fraction(0)))
                paid = cost + (chance * part[0] if payer == "" else 0)
                following[after] = (before[0] + chance * share, before[1] + paid * share)
        level = following
    return sum(c for c, m in level.values()), sum(m for c, m in level.values())


class IsWeights(unittest.TestCase):
    def test_ordinary(self):
        for quiet in range(-1, 12):
            for weight in range(-1, 12):
                want = 1 <= quiet <= 9 and 1 <= weight <= 9
                self.assertIs(is_weights(NARROW, (quiet, (weight,))), want)
                self.assertIs(is_weights(PUMP, (quiet, (weight, 5))), want)
                self.assertIs(is_weights(PUMP, (5, (quiet, weight))), want)
                self.assertIs(is_weights(WIDE, (1, (9, weight, quiet))), want)

    def test_one_weight_for_each_kind(self):
        for part in (NARROW, PUMP, WIDE):
            for many in range(6):
                self.assertIs(is_weights(part, (3, (4,) * many)), many == len(part[1]))

    def test_wrong_candidates(self):
        for candidate in BAD_WEIGHTS:
            with self.subTest(repr(candidate)[:80]):
                self.assertIs(is_weights(PUMP, candidate), False)

    def test_wrong_parts(self):
        for candidate in (WEIGHTS, None, DEEP_LIST):
            for part in BAD_PARTS:
                check_error(self, is_weights, [part, candidate], InvalidPart)


class ChanceOf(unittest.TestCase):
    def test_example(self):
        self.assertEqual(chance_of(BARE, (2, (1, 1)), ("",)), (2, 3))

    def test_ordinary(self):
        self.assertEqual(chance_of(BARE, WEIGHTS, ()), (1, 1))
        self.assertEqual(chance_of(BARE, WEIGHTS, ("b",)), (1, 3))
        self.assertEqual(chance_of(BARE, WEIGHTS, ("", "")), (1, 3))
        self.assertEqual(chance_of(BARE, WEIGHTS, ("", "", "", "a")), (1, 12))
        self.assertEqual(chance_of(PUMP, (9, (5, 4)), ("b", "a")), (10, 117))
        self.assertEqual(chance_of(NARROW, (1, (9,)), ("c", "c", "")), (81, 1000))
        self.assertEqual(chance_of(WIDE, (1, (2, 3, 4)), ("",) * 6), (1, 1))
        self.assertEqual(chance_of(WIDE, (1, (2, 3, 4)), ("",) * 6 + ("c",)), (2, 5))

    def test_long_courses(self):
        self.assertEqual(chance_of(NARROW, (9, (1,)), ("c",) * 60), (1, 10 ** 60))
        self.assertEqual(chance_of(NARROW, (5, (5,)), ("", "c") * 30), (1, 2 ** 60))
        self.assertEqual(chance_of(BARE, (1, (7, 1)), ("b",) * 60), (1, 2 * 9 ** 59))

    def test_against_the_slow_way(self):
        source = random.Random(121)
        for part in random_parts(122, 40) + small_parts(123, 40):
            weights = random_weights(source, part)
            for many in (1, 2, 3, 4):
                total = 0
                for course, cost, state, payers in walks(part, many)[many]:
                    found = chance_of(part, weights, course)
                    self.assertEqual(found, pair(chance_by_days(part, weights, course)))
                    total += Fraction(*found)
                self.assertEqual(total, 1)

    def test_it_does_not_depend_on_who_pays(self):
        for course in [("b", "a"), ("", "", "a", "b"), ("",)]:
            found = chance_of(PUMP, (3, (2, 7)), course)
            self.assertEqual(found, chance_of(BARE, (3, (2, 7)), course))

    def test_more_than_400_states_do_not_matter(self):
        self.assertEqual(chance_of(OVER, (1, (2, 3)), ("c",)), (3, 4))

    def test_exceptions_in_order(self):
        for weights, course in [(WEIGHTS, ("b",)), ((9, (9, 9)), ()), ((1, (1, 1)), ("b",) * 60)]:
            check_errors(self, chance_of, (PUMP, weights, course), [
                (InvalidPart, at(0, BAD_PARTS)), (InvalidWeights, at(1, BAD_WEIGHTS)),
                (InvalidCourse, at(2, BAD_COURSES))])


class ChanceFreeAndMeanCost(unittest.TestCase):
    def test_example(self):
        self.assertEqual(mean_cost(BARE, (2, (1, 1)), 1), (5, 3))

    def test_ordinary(self):
        self.assertEqual([chance_free(BARE, WEIGHTS, many) for many in range(6)], [
            (1, 1), (2, 3), (1, 3), (1, 6), (0, 1), (0, 1)])
        self.assertEqual([mean_cost(NARROW, (1, (1,)), many) for many in range(5)], [
            (0, 1), (1, 2), (1, 1), (3, 2), (2, 1)])
        self.assertEqual(chance_free(NARROW, (9, (1,)), 12), (9 ** 12, 10 ** 12))
        self.assertEqual(chance_free(KEPT, (1, (9, 9)), 12), (1, 1))
        self.assertEqual(mean_cost(KEPT, (1, (9, 9)), 12), (0, 1))
        self.assertEqual(mean_cost(PUMP, (1, (9, 9)), 0), (0, 1))
        self.assertEqual(mean_cost(BARE, (2, (1, 1)), 2), (25, 6))

    def test_by_listing_all_courses(self):
        source = random.Random(124)
        for part in small_parts(125, 120) + random_parts(126, 30) + [PUMP, BARE, NARROW]:
            weights = random_weights(source, part)
            for many in (0, 1, 2, 3, 5) if len(closure(part)) <= 400 else []:
                found = all_chances(part, weights, many)
                self.assertEqual(sum(chance for chance, cost, left in found), 1)
                want = sum((chance for chance, cost, left in found if cost == 0), Fraction(0))
                self.assertEqual(chance_free(part, weights, many), pair(want))
                want = sum((chance * cost for chance, cost, left in found), Fraction(0))
                self.assertEqual(mean_cost(part, weights, many), pair(want))
                for kind in "abc":
                    want = [chance for chance, cost, left in found if kind in left]
                    self.assertEqual(
                        chance_left(part, weights, kind, many), pair(sum(want, Fraction(0))))

    def test_twelve_days_state_by_state(self):
        source = random.Random(127)
        for part in small_parts(128, 60) + [PUMP, BARE, FULL, WIDE, KEPT]:
            weights = random_weights(source, part)
            for many in (7, 11, 12):
                free = spread(part, weights, many, "abc")[0]
                self.assertEqual(chance_free(part, weights, many), pair(Fraction(free)))
                mean = spread(part, weights, many, "")[1]
                self.assertEqual(mean_cost(part, weights, many), pair(Fraction(mean)))
                for kind in "abc":
                    left = 1 - spread(part, weights, many, kind)[0]
                    self.assertEqual(chance_left(part, weights, kind, many), pair(Fraction(left)))

    def test_surely_free(self):
        for part in small_parts(129, 80):
            days = surely_free(part)
            weights = (3, (2,) * len(part[1]))
            for many in range(13):
                free = chance_free(part, weights, many) == (1, 1)
                self.assertEqual(free, days is None or many <= days)
                self.assertEqual(free, mean_cost(part, weights, many) == (0, 1))

    def test_exceptions_in_order(self):
        for function in (chance_free, mean_cost):
            for many in (0, 12):
                check_errors(self, function, (PUMP, WEIGHTS, many), [
                    (InvalidPart, at(0, BAD_PARTS)), (InvalidWeights, at(1, BAD_WEIGHTS)),
                    (InvalidNumber, at(2, bad_numbers(0, 12))), (TooLarge, at(0, [OVER]))])
                check_error(self, function, [HUGE, (1, (1, 1, 1)), many], TooLarge)
                check_error(self, function, [HUGE, (1, (1, 1)), many], InvalidWeights)
                function(FULL, (1, (1, 1, 1)), many)


class ChanceLeft(unittest.TestCase):
    def test_ordinary(self):
        self.assertEqual([chance_left(BARE, WEIGHTS, "b", many) for many in range(3)], [
            (0, 1), (1, 3), (1, 2)])
        self.assertEqual([chance_left(BARE, WEIGHTS, "a", many) for many in range(3)], [
            (0, 1), (0, 1), (1, 4)])
        self.assertEqual(chance_left(PUMP, WEIGHTS, "b", 2), (0, 1))
        self.assertEqual(chance_left(KEPT, WEIGHTS, "a", 12), (0, 1))
        self.assertEqual(chance_left((5, (("a", 1),), 1, ()), (1, (1,)), "a", 2), (1, 1))

    def test_a_kind_that_does_not_come(self):
        for many in (0, 1, 12):
            self.assertEqual(chance_left(PUMP, WEIGHTS, "c", many), (0, 1))
            self.assertEqual(chance_left(NARROW, (1, (1,)), "a", many), (0, 1))

    def test_with_one_kind_it_is_left_or_all_is_free(self):
        source = random.Random(130)
        for part in small_parts(131, 100):
            if len(part[1]) == 1:
                weights = random_weights(source, part)
                for many in range(13):
                    left = Fraction(*chance_left(part, weights, part[1][0][0], many))
                    self.assertEqual(1 - left, Fraction(*chance_free(part, weights, many)))

    def test_exceptions_in_order(self):
        for kind, many in [("a", 0), ("b", 12), ("c", 5)]:
            check_errors(self, chance_left, (PUMP, WEIGHTS, kind, many), [
                (InvalidPart, at(0, BAD_PARTS)), (InvalidWeights, at(1, BAD_WEIGHTS)),
                (InvalidKind, at(2, BAD_KINDS)), (InvalidNumber, at(3, bad_numbers(0, 12))),
                (TooLarge, at(0, [OVER]))])
            chance_left(FULL, (1, (1, 1, 1)), kind, many)


class CheaperOnAverage(unittest.TestCase):
    def test_example(self):
        self.assertEqual(cheaper_on_average(PUMP, BARE, (2, (1, 1)), 2), "one")

    def test_ordinary(self):
        self.assertEqual(cheaper_on_average(BARE, PUMP, WEIGHTS, 2), "other")
        self.assertEqual(cheaper_on_average(BARE, PUMP, WEIGHTS, 0), "same")
        self.assertEqual(cheaper_on_average(PUMP, PUMP, WEIGHTS, 12), "same")

    def test_the_days_and_weights_matter(self):
        cheap = (4, (("a", 0),), 0, ())
        covered = (9, (("a", 0),), 0, (("x", 6, "a", "rest", 1, False),))
        found = {
            weights: [cheaper_on_average(cheap, covered, weights, many) for many in (1, 2, 3, 12)]
            for weights in [(1, (9,)), (9, (1,))]
        }
        self.assertEqual(found[1, (9,)], ["other", "one", "one", "one"])
        self.assertEqual(found[9, (1,)], ["other", "other", "other", "one"])

    def test_small_differences_count(self):
        # The parts differ in one cost only, with the least chance.
        one = (20, (("a", 0), ("b", 0)), 0, (("x", 6, "ab", "anew", 0, False),))
        other = (20, (("a", 0), ("b", 0)), 0, (("x", 6, "a", "anew", 0, False),))
        self.assertEqual(cheaper_on_average(one, other, (9, (9, 1)), 1), "one")
        self.assertEqual(cheaper_on_average(other, one, (9, (9, 1)), 12), "other")

    def test_against_the_slow_way(self):
        source = random.Random(132)
        counts = {}
        for one, other in pairs_of(133, 120):
            weights = random_weights(source, one)
            for many in (0, 1, 3, 12):
                mean, other_mean = [
                    spread(part, weights, many, "")[1] for part in (one, other)]
                want = "same" if mean == other_mean else "one" if mean < other_mean else "other"
                self.assertEqual(cheaper_on_average(one, other, weights, many), want)
                counts[want] = counts.get(want, 0) + 1
        self.assertGreater(min(counts[word] for word in ("one", "other", "same")), 20)

    def test_more_than_2000_pairs_do_not_matter(self):
        self.assertEqual(cheaper_on_average(FULL, (1,) + FULL[1:], (1, (1, 1, 1)), 12), "other")

    def test_exceptions_in_order(self):
        for many in (0, 12):
            check_errors(self, cheaper_on_average, (PUMP, BARE, WEIGHTS, many), [
                (InvalidPart, at(0, BAD_PARTS)), (InvalidPart, at(1, BAD_PARTS)),
                (OtherLives, at(1, OTHERS)), (InvalidWeights, at(2, BAD_WEIGHTS)),
                (InvalidNumber, at(3, bad_numbers(0, 12)))])
            bare = OVER[:3] + ((),)
            for pair_of in [(OVER, bare), (bare, OVER), (OVER, OVER)]:
                check_error(self, cheaper_on_average, [*pair_of, WEIGHTS, many], TooLarge)
                check_error(self, cheaper_on_average, [*pair_of, (2, (1,)), many], InvalidWeights)
                check_error(self, cheaper_on_average, [*pair_of, WEIGHTS, 13], InvalidNumber)
