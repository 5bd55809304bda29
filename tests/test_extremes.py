"""The greatest and the least costs of so many days: 7.1 and 7.2."""

import unittest

from coverterms.courses import cost, is_course
from coverterms.errors import InvalidNumber, InvalidPart, TooLarge
from coverterms.extremes import cheapest_course, costliest_course, greatest_cost, least_cost
from tests.samples import BARE, FULL, HUGE, KEPT, LONG, NARROW, OVER, PUMP
from tests.samples import random_parts, small_parts
from tests.slow import closure, walks
from tests.wrong import BAD_PARTS, at, bad_numbers, check_errors

WRONG = [
    (InvalidPart, at(0, BAD_PARTS)), (InvalidNumber, at(1, bad_numbers(0, 60))),
    (TooLarge, at(0, [OVER, HUGE])),
]


class Costs(unittest.TestCase):
    def test_example(self):
        self.assertEqual(greatest_cost(PUMP, 3), 5)

    def test_ordinary(self):
        self.assertEqual([greatest_cost(PUMP, many) for many in range(6)], [0, 0, 0, 5, 10, 15])
        self.assertEqual([greatest_cost(BARE, many) for many in range(4)], [0, 5, 10, 15])
        self.assertEqual([least_cost(BARE, many) for many in range(8)], [0, 0, 0, 0, 5, 5, 5, 10])
        self.assertEqual([least_cost(PUMP, many) for many in (4, 5, 6, 10, 11)], [0, 0, 5, 5, 10])

    def test_no_days_and_sixty(self):
        for part in (PUMP, BARE, KEPT, NARROW, FULL, LONG):
            self.assertEqual(greatest_cost(part, 0), 0)
            self.assertEqual(least_cost(part, 0), 0)
        self.assertEqual(greatest_cost(BARE, 60), 300)
        self.assertEqual(least_cost(BARE, 60), 95)
        self.assertEqual(greatest_cost(NARROW, 60), 60)
        self.assertEqual(least_cost(NARROW, 60), 0)
        self.assertEqual(greatest_cost(KEPT, 60), 0)
        self.assertEqual(greatest_cost((20, (("a", 6),), 6, ()), 60), 180)

    def test_returns_integers(self):
        for function in (greatest_cost, least_cost):
            for part in (PUMP, KEPT):
                self.assertIs(function(part, 2).__class__, int)

    def test_by_trying_all(self):
        for part in small_parts(41, 150) + random_parts(42, 40):
            if len(closure(part)) <= 400:
                for many, level in enumerate(walks(part, 6)):
                    costs = [cost for course, cost, state, paid in level]
                    self.assertEqual(greatest_cost(part, many), max(costs))
                    self.assertEqual(least_cost(part, many), min(costs))

    def test_exceptions_in_order(self):
        for many in (0, 60):
            check_errors(self, greatest_cost, (FULL, many), WRONG)
            check_errors(self, least_cost, (PUMP, many), WRONG)


class Courses(unittest.TestCase):
    def test_example(self):
        self.assertEqual(costliest_course(BARE, 2), ("b", "a"))

    def test_ordinary(self):
        self.assertEqual(costliest_course(PUMP, 3), ("", "", "b"))
        self.assertEqual(costliest_course(PUMP, 2), ("", ""))
        self.assertEqual(cheapest_course(PUMP, 3), ("", "", ""))
        self.assertEqual(cheapest_course(BARE, 4), ("", "", "", "a"))
        self.assertEqual(cheapest_course(BARE, 5), ("", "", "", "a", ""))
        self.assertEqual(costliest_course(BARE, 4), ("b", "a", "a", "a"))
        self.assertEqual(cheapest_course(KEPT, 5), ("", "", "", "", "a"))

    def test_no_days_and_sixty(self):
        for function in (costliest_course, cheapest_course):
            for part in (PUMP, BARE, KEPT, NARROW, FULL, LONG):
                self.assertEqual(function(part, 0), ())
                self.assertEqual(len(function(part, 60)), 60)
        self.assertEqual(costliest_course(NARROW, 60), ("c",) * 60)
        self.assertEqual(cheapest_course(NARROW, 60), ("",) * 60)
        self.assertEqual(costliest_course(BARE, 60), ("b",) + ("a",) * 59)

    def test_the_costs_are_those_told(self):
        for part in random_parts(43, 60) + [FULL, LONG]:
            if len(closure(part)) <= 400:
                for many in (7, 33, 60):
                    worst, best = costliest_course(part, many), cheapest_course(part, many)
                    self.assertTrue(is_course(part, worst) and is_course(part, best))
                    self.assertEqual((len(worst), len(best)), (many, many))
                    self.assertEqual(cost(part, worst), greatest_cost(part, many))
                    self.assertEqual(cost(part, best), least_cost(part, many))

    def test_first_of_several(self):
        for part in small_parts(44, 150) + random_parts(45, 40):
            if len(closure(part)) <= 400:
                for many, level in enumerate(walks(part, 6)):
                    courses = {}
                    for course, paid, state, payers in level:
                        courses.setdefault(paid, course)
                    self.assertEqual(costliest_course(part, many), courses[max(courses)])
                    self.assertEqual(cheapest_course(part, many), courses[min(courses)])

    def test_exceptions_in_order(self):
        for many in (0, 60):
            check_errors(self, costliest_course, (FULL, many), WRONG)
            check_errors(self, cheapest_course, (PUMP, many), WRONG)
