"""Few faults, and goods of several parts: 15.1 and 15.2."""

import functools
import itertools
import random
import unittest

from coverterms.errors import InvalidGoods, InvalidNumber, InvalidPart, TooLarge
from coverterms.extremes import greatest_cost
from coverterms.stocks import are_goods, faults_for, fewest_faults, greatest_of_all
from coverterms.stocks import greatest_with, worst_shares
from tests.samples import BARE, DEEP, DEEP_LIST, FULL, HUGE, KEPT, NARROW, ODD, OVER, PUMP, WIDE
from tests.samples import small_parts
from tests.slow import beginning, days_from, walks
from tests.wrong import BAD_PARTS, at, bad_numbers, check_errors

BAD_GOODS = [value for value in ODD if value != (PUMP,)] + [
    PUMP, [PUMP], [PUMP, BARE], (PUMP,) * 5, (PUMP, BARE) * 3, ((PUMP,),), (PUMP, (BARE,)),
    (PUMP, [BARE]), (PUMP, list(BARE)), (PUMP, None), (PUMP, True), (PUMP, 0), (PUMP, ""),
    (PUMP, ()), (PUMP, BARE[:3]), (PUMP, BARE, "ab", BARE), (DEEP, PUMP), (PUMP, DEEP_LIST),
]
# A fifth fault in five days is one of "a" on the first day, which is paid.
LATE = (9, (("a", 0), ("b", 1)), 0, (("x", 3, "a", "anew", 2, False),))


def tried(part, many, allowed):
    """Return the greatest cost of the walks with an allowed number of faults, None if none."""
    costs = [
        cost for course, cost, state, payers in walks(part, many)[many]
        if len([event for event in course if event != ""]) in allowed
    ]
    return max(costs, default=None)


def slow_greatest(part):
    """Return a function (days, faults) for the greatest cost with at most so many faults."""
    followers = functools.lru_cache(None)(lambda state: days_from(part, state))

    @functools.lru_cache(None)
    def most(state, many, faults):
        if many == 0:
            return 0
        costs = []
        for event, payer, after in followers(state):
            if event == "" or faults > 0:
                rest = most(after, many - 1, faults if event == "" else faults - 1)
                if rest is not None:
                    costs.append(rest + (part[0] if payer == "" else 0))
        return max(costs, default=None)
    return lambda many, faults: most(beginning(part), many, faults)


def all_shares(many, faults):
    """Return the ascending list of tuples of so many numbers with a sum of at most faults."""
    found = itertools.product(range(faults + 1), repeat=many)
    return [shares for shares in found if sum(shares) <= faults]


class GreatestWith(unittest.TestCase):
    def test_example(self):
        self.assertEqual(greatest_with(BARE, 3, 1), 5)

    def test_ordinary(self):
        self.assertEqual([greatest_with(BARE, 3, faults) for faults in range(5)], [0, 5, 10, 15, 15])
        self.assertEqual([greatest_with(PUMP, 3, faults) for faults in range(4)], [0, 5, 5, 5])
        self.assertEqual([greatest_with(LATE, 5, faults) for faults in range(7)], [
            0, 9, 18, 27, 36, 36, 36])
        self.assertEqual(greatest_with(NARROW, 30, 30), 30)
        self.assertEqual(greatest_with(NARROW, 30, 29), 29)
        self.assertEqual(greatest_with(NARROW, 30, 0), 0)
        self.assertEqual(greatest_with(KEPT, 30, 30), 0)
        self.assertEqual(greatest_with((20, (("a", 0),), 0, ()), 30, 30), 600)
        for faults in (0, 30):
            self.assertEqual(greatest_with(PUMP, 0, faults), 0)

    def test_no_such_course(self):
        self.assertIsNone(greatest_with(BARE, 4, 0))
        self.assertEqual(greatest_with(BARE, 4, 1), 5)
        self.assertIsNone(greatest_with(BARE, 30, 8))
        self.assertEqual(greatest_with(BARE, 30, 9), 45)
        self.assertIsNone(greatest_with(KEPT, 30, 5))
        self.assertIsNone(greatest_with((5, (("a", 1),), 1, ()), 30, 28))
        self.assertEqual(greatest_with((5, (("a", 1),), 1, ()), 30, 29), 145)

    def test_against_all_courses(self):
        for part in small_parts(141, 80) + [PUMP, BARE, KEPT, LATE]:
            for many in (0, 1, 2, 4, 6):
                for faults in range(8):
                    want = tried(part, many, range(faults + 1))
                    self.assertEqual(greatest_with(part, many, faults), want)

    def test_against_the_slow_way(self):
        for part in small_parts(142, 25) + [PUMP, FULL, WIDE]:
            slow = slow_greatest(part)
            for many, faults in [(30, 30), (30, 12), (29, 3), (17, 5), (30, 0), (13, 30)]:
                self.assertEqual(greatest_with(part, many, faults), slow(many, faults))

    def test_with_enough_faults_it_is_the_greatest_cost(self):
        for part in small_parts(143, 60):
            for many in (0, 3, 11, 30):
                self.assertEqual(greatest_with(part, many, many), greatest_cost(part, many))
                self.assertEqual(greatest_with(part, many, 30), greatest_cost(part, many))

    def test_exceptions_in_order(self):
        for many, faults in [(0, 0), (30, 30), (30, 10), (0, 30)]:
            check_errors(self, greatest_with, (PUMP, many, faults), [
                (InvalidPart, at(0, BAD_PARTS)), (InvalidNumber, at(1, bad_numbers(0, 30))),
                (InvalidNumber, at(2, bad_numbers(0, 30))), (TooLarge, at(0, [OVER, HUGE]))])


class FewestFaults(unittest.TestCase):
    def test_ordinary(self):
        self.assertEqual([fewest_faults(BARE, many) for many in range(9)], [
            0, 0, 0, 0, 1, 1, 1, 2, 2])
        self.assertEqual([fewest_faults(NARROW, many) for many in (0, 1, 30)], [0, 0, 0])
        for many in range(31):
            self.assertEqual(fewest_faults((5, (("a", 1),), 1, ()), many), max(0, many - 1))

    def test_it_is_the_least_number_with_a_course(self):
        for part in small_parts(144, 60) + [PUMP, BARE, KEPT]:
            for many in (0, 1, 5, 13, 30):
                fewest = fewest_faults(part, many)
                self.assertIsNotNone(greatest_with(part, many, fewest))
                if fewest > 0:
                    self.assertIsNone(greatest_with(part, many, fewest - 1))

    def test_against_all_courses(self):
        for part in small_parts(145, 80):
            for many in (0, 1, 3, 6):
                want = min(
                    len([event for event in course if event != ""])
                    for course, cost, state, payers in walks(part, many)[many])
                self.assertEqual(fewest_faults(part, many), want)

    def test_exceptions_in_order(self):
        for many in (0, 30):
            check_errors(self, fewest_faults, (PUMP, many), [
                (InvalidPart, at(0, BAD_PARTS)), (InvalidNumber, at(1, bad_numbers(0, 30))),
                (TooLarge, at(0, [OVER, HUGE]))])
            fewest_faults(FULL, many)


class FaultsFor(unittest.TestCase):
    def test_ordinary(self):
        self.assertEqual([faults_for(BARE, 3, cost) for cost in (0, 1, 5, 6, 10, 15, 16)], [
            0, 1, 1, 2, 2, 3, None])
        self.assertEqual([faults_for(PUMP, 3, cost) for cost in (0, 1, 5, 6)], [0, 1, 1, None])
        self.assertEqual(faults_for((20, (("a", 0),), 0, ()), 30, 600), 30)
        self.assertEqual(faults_for((20, (("a", 0),), 0, ()), 30, 580), 29)
        self.assertIsNone(faults_for((20, (("a", 0),), 0, ()), 29, 600))
        self.assertIsNone(faults_for(KEPT, 30, 1))
        self.assertIsNone(faults_for(PUMP, 0, 1))
        self.assertEqual(faults_for(PUMP, 0, 0), 0)

    def test_no_cost_takes_the_fewest_faults(self):
        for part in small_parts(146, 60):
            for many in (0, 4, 30):
                self.assertEqual(faults_for(part, many, 0), fewest_faults(part, many))

    def test_more_faults_may_cost_less(self):
        # A payer who has paid stands in anew, so that four faults cost nothing.
        part = (9, (("a", 0), ("b", 3)), 0, (("x", 2, "a", "anew", 0, False),))
        self.assertEqual([tried(part, 4, [faults]) for faults in range(5)], [0, 9, 18, 18, 0])
        self.assertEqual([faults_for(part, 4, cost) for cost in (9, 18)], [1, 2])
        self.assertEqual(greatest_with(part, 4, 4), 18)

    def test_against_all_courses(self):
        for part in small_parts(147, 60) + [PUMP, BARE]:
            for many in (0, 2, 5):
                for cost in sorted({0, 1, part[0], part[0] + 1, 2 * part[0], 3 * part[0], 600}):
                    want = [
                        len([event for event in course if event != ""])
                        for course, found, state, payers in walks(part, many)[many]
                        if found >= cost
                    ]
                    self.assertEqual(faults_for(part, many, cost), min(want, default=None))

    def test_exceptions_in_order(self):
        for many, cost in [(0, 0), (30, 600), (30, 0), (0, 600)]:
            check_errors(self, faults_for, (PUMP, many, cost), [
                (InvalidPart, at(0, BAD_PARTS)), (InvalidNumber, at(1, bad_numbers(0, 30))),
                (InvalidNumber, at(2, bad_numbers(0, 600))), (TooLarge, at(0, [OVER, HUGE]))])


class AreGoods(unittest.TestCase):
    def test_ordinary(self):
        for many in range(7):
            self.assertIs(are_goods((PUMP,) * many), 1 <= many <= 4)
        self.assertIs(are_goods((PUMP, BARE, WIDE, NARROW)), True)
        self.assertIs(are_goods((HUGE, OVER)), True)

    def test_wrong_candidates(self):
        for candidate in BAD_GOODS:
            with self.subTest(repr(candidate)[:80]):
                self.assertIs(are_goods(candidate), False)
        for part in BAD_PARTS:
            self.assertIs(are_goods((PUMP, part)), False)
            self.assertIs(are_goods((part,)), False)


class SeveralParts(unittest.TestCase):
    def test_example(self):
        self.assertEqual(worst_shares((BARE, PUMP), 3, 1), (0, 1))

    def test_ordinary(self):
        self.assertEqual(greatest_of_all((BARE, PUMP), 3, 1), 5)
        self.assertEqual([greatest_of_all((BARE, PUMP), 3, faults) for faults in range(6)], [
            0, 5, 10, 15, 20, 20])
        self.assertEqual(worst_shares((BARE, PUMP), 3, 4), (3, 1))
        self.assertEqual(worst_shares((BARE, PUMP), 3, 30), (3, 1))
        self.assertEqual(worst_shares((PUMP, BARE), 3, 1), (0, 1))
        self.assertEqual(worst_shares((PUMP, BARE), 3, 4), (1, 3))
        self.assertEqual(greatest_of_all((PUMP,) * 4, 0, 30), 0)
        self.assertEqual(worst_shares((PUMP,) * 4, 0, 30), (0, 0, 0, 0))

    def test_the_same_part_twice(self):
        self.assertEqual(worst_shares((NARROW, NARROW), 3, 3), (0, 3))
        self.assertEqual(worst_shares((NARROW, NARROW), 3, 4), (1, 3))
        self.assertEqual(worst_shares((NARROW, NARROW), 3, 7), (3, 3))
        self.assertEqual(greatest_of_all((NARROW, NARROW), 3, 7), 6)
        self.assertEqual(greatest_of_all((NARROW,) * 4, 30, 30), 30)
        self.assertEqual(worst_shares((NARROW,) * 4, 30, 30), (0, 0, 0, 30))
        self.assertEqual(worst_shares((KEPT,) * 4, 4, 30), (0, 0, 0, 0))

    def test_no_such_courses(self):
        # Each of the parts has one fault at least.
        self.assertIsNone(greatest_of_all((BARE, BARE), 4, 1))
        self.assertIsNone(worst_shares((BARE, BARE), 4, 1))
        self.assertEqual(greatest_of_all((BARE, BARE), 4, 2), 10)
        self.assertEqual(worst_shares((BARE, BARE), 4, 2), (1, 1))
        self.assertEqual(worst_shares((BARE, KEPT, BARE), 4, 3), (1, 0, 2))
        self.assertIsNone(greatest_of_all((BARE,), 4, 0))
        self.assertIsNone(worst_shares((BARE,), 4, 0))

    def test_one_part(self):
        for part in small_parts(148, 40):
            for many, faults in [(0, 0), (5, 2), (9, 9), (30, 30)]:
                want = greatest_with(part, many, faults)
                self.assertEqual(greatest_of_all((part,), many, faults), want)
                shares = worst_shares((part,), many, faults)
                if want is None:
                    self.assertIsNone(shares)
                else:
                    self.assertEqual(greatest_with(part, many, shares[0]), want)
                    for fewer in range(shares[0]):
                        self.assertNotEqual(greatest_with(part, many, fewer), want)

    def test_against_all_shares(self):
        source = random.Random(149)
        nothing = several = 0
        for _ in range(150):
            goods = tuple(small_parts(source.random(), source.randint(1, 4)))
            if source.random() < 0.3:
                goods = (goods + goods)[:4]
            many, faults = source.choice([(3, 2), (5, 5), (6, 3), (9, 6), (30, 4), (4, 0)])
            table = [[greatest_with(part, many, share) for share in range(faults + 1)]
                     for part in goods]
            sums = {}
            for shares in all_shares(len(goods), faults):
                costs = [row[share] for row, share in zip(table, shares)]
                if None not in costs:
                    sums.setdefault(sum(costs), []).append(shares)
            if sums:
                self.assertEqual(greatest_of_all(goods, many, faults), max(sums))
                self.assertEqual(worst_shares(goods, many, faults), min(sums[max(sums)]))
                several += len(sums[max(sums)]) > 1
            else:
                self.assertIsNone(greatest_of_all(goods, many, faults))
                self.assertIsNone(worst_shares(goods, many, faults))
                nothing += 1
        self.assertGreater(nothing, 3)
        self.assertGreater(several, 10)

    def test_against_all_courses(self):
        for seed in range(150, 170):
            goods = tuple(small_parts(seed, 2))
            for many, faults in [(2, 1), (3, 2), (3, 4)]:
                sums = [
                    cost + other_cost
                    for course, cost, *_ in walks(goods[0], many)[many]
                    for other, other_cost, *_ in walks(goods[1], many)[many]
                    if len([event for event in course + other if event != ""]) <= faults
                ]
                self.assertEqual(greatest_of_all(goods, many, faults), max(sums, default=None))

    def test_exceptions_in_order(self):
        for function in (greatest_of_all, worst_shares):
            for many, faults in [(0, 0), (30, 30), (0, 30), (30, 0)]:
                check_errors(self, function, ((PUMP, BARE, FULL, PUMP), many, faults), [
                    (InvalidGoods, at(0, BAD_GOODS)), (InvalidNumber, at(1, bad_numbers(0, 30))),
                    (InvalidNumber, at(2, bad_numbers(0, 30))),
                    (TooLarge, at(0, [(OVER,), (PUMP, BARE, PUMP, HUGE)]))])
