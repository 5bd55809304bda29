"""Courses: 3.1, 3.2 and the definitions 0.8 to 0.10."""

import copy
import itertools
import random
import unittest

from coverterms.courses import cost, is_course, payments, state_after
from coverterms.errors import InvalidCourse, InvalidPart
from tests.model import Model
from tests.samples import BARE, NARROW, PUMP, WIDE, random_parts
from tests.slow import model_allows
from tests.wrong import BAD_COURSES, BAD_PARTS, at, check_errors


class IsCourse(unittest.TestCase):
    def test_example(self):
        self.assertIs(is_course(PUMP, ("a",)), False)

    def test_ordinary(self):
        for course in [(), ("",), ("b",), ("", "a"), ("b", "a", "a"), ("b", "", "b", "", "", "a"),
                       ("", "", "", "a"), ("", "", "", "b", "", "", "a")]:
            self.assertIs(is_course(PUMP, course), True)
            self.assertIs(is_course(BARE, course), True)

    def test_an_age_beyond_most(self):
        self.assertIs(is_course(PUMP, ("", "", "", "")), False)
        self.assertIs(is_course(PUMP, ("b", "", "", "")), False)
        self.assertIs(is_course(PUMP, ("b", "", "")), True)

    def test_without_most(self):
        part = (5, (("a", 6),), 0, ())
        for many in range(61):
            self.assertIs(is_course(part, ("",) * many), True)
        for many in range(12):
            self.assertIs(is_course(part, ("",) * many + ("a",)), many >= 6)
        self.assertIs(is_course(part, ("",) * 6 + ("a",) + ("",) * 4 + ("a",)), False)
        self.assertIs(is_course(part, ("",) * 6 + ("a",) + ("",) * 5 + ("a",)), True)

    def test_a_life_greater_than_most(self):
        part = (5, (("a", 6), ("b", 2)), 2, ())
        self.assertIs(is_course(part, ("", "", "b", "", "b")), True)
        self.assertIs(is_course(part, ("", "", "b", "", "")), False)
        self.assertIs(is_course(part, ("", "", "a")), False)

    def test_sixty_events_at_most(self):
        for part, event in [(NARROW, ""), (NARROW, "c"), (PUMP, "b"), (BARE, "b")]:
            self.assertIs(is_course(part, (event,) * 59), True)
            self.assertIs(is_course(part, (event,) * 60), True)
            self.assertIs(is_course(part, (event,) * 61), False)
            self.assertIs(is_course(part, (event,) * 1000), False)

    def test_all_short_courses(self):
        for part in random_parts(5, 40):
            for course in itertools.product(["", "a", "b", "c"], repeat=4):
                self.assertIs(is_course(part, course), model_allows(part, course))

    def test_it_does_not_depend_on_the_terms(self):
        for course in itertools.product(["", "a", "b"], repeat=5):
            self.assertIs(is_course(PUMP, course), is_course(BARE, course))

    def test_wrong_candidates(self):
        for candidate in BAD_COURSES:
            with self.subTest(repr(candidate)[:80]):
                self.assertIs(is_course(PUMP, candidate), False)

    def test_wrong_parts(self):
        for part in BAD_PARTS:
            for candidate in [(), ("b",), None]:
                with self.subTest(repr(part)[:80]), self.assertRaises(InvalidPart):
                    is_course(part, candidate)


class StateAfter(unittest.TestCase):
    def test_ordinary(self):
        self.assertEqual(state_after(PUMP, ()), (0, ((2, -1), (3, 1))))
        self.assertEqual(state_after(PUMP, ("",)), (1, ((1, -1), (2, 1))))
        self.assertEqual(state_after(PUMP, ("", "", "a")), (1, ((0, -1), (2, 0))))
        self.assertEqual(state_after(PUMP, ("", "", "a", "b")), (1, ((0, -1), (2, 1))))
        self.assertEqual(state_after(PUMP, ("", "", "", "b")), (1, ((0, -1), (2, 1))))
        self.assertEqual(state_after(BARE, ("", "", "")), (3, ()))
        self.assertEqual(state_after(NARROW, ("c",) * 60), (0, ()))

    def test_wide(self):
        quiet = ("",) * 6
        self.assertEqual(state_after(WIDE, quiet), (6, ((0, 2), (0, 2), (0, -1))))
        self.assertEqual(state_after(WIDE, quiet + ("a",)), (1, ((5, 2), (0, 2), (5, -1))))

    def test_exceptions_in_order(self):
        check_exceptions(self, state_after)


class Payments(unittest.TestCase):
    def test_example(self):
        self.assertEqual(payments(PUMP, ("", "", "a", "b")), [(2, "a", "seller"), (3, "b", "")])

    def test_ordinary(self):
        self.assertEqual(payments(PUMP, ()), [])
        self.assertEqual(payments(PUMP, ("", "", "")), [])
        self.assertEqual(payments(PUMP, ("b", "a", "b")), [
            (0, "b", "maker"), (1, "a", "maker"), (2, "b", "")])
        self.assertEqual(payments(BARE, ("b", "", "a")), [(0, "b", ""), (2, "a", "")])
        self.assertEqual(payments(PUMP, ("b",) * 60), [
            (day, "b", "maker" if day < 2 else "") for day in range(60)])

    def test_claims_that_are_used_up_and_begin_anew_at_a_sale(self):
        part = (3, (("a", 0),), 0, (("x", 6, "a", "anew", 2, True),))
        self.assertEqual([payer for day, kind, payer in payments(part, ("a",) * 7)],
                         ["x", "x", "", "x", "x", "", "x"])
        part = (3, (("a", 0),), 0, (("x", 6, "a", "anew", 2, False),))
        self.assertEqual([payer for day, kind, payer in payments(part, ("a",) * 5)],
                         ["x", "x", "", "", ""])

    def test_days_that_run_out_or_begin_anew(self):
        for renewal, want in [("anew", ["x"] * 4), ("rest", ["x", "x", "", ""])]:
            part = (3, (("a", 0),), 0, (("x", 2, "a", renewal, 0, False),))
            self.assertEqual([payer for day, kind, payer in payments(part, ("a",) * 4)], want)

    def test_empty_kinds_pay_nothing(self):
        part = (3, (("a", 0),), 0, (("x", 6, "", "anew", 0, True),))
        self.assertEqual(payments(part, ("a", "a")), [(0, "a", ""), (1, "a", "")])

    def test_the_list_is_new(self):
        payments(PUMP, ("b",)).append(None)
        self.assertEqual(payments(PUMP, ("b",)), [(0, "b", "maker")])
        self.assertIsInstance(payments(PUMP, ()), list)

    def test_exceptions_in_order(self):
        check_exceptions(self, payments)


class Cost(unittest.TestCase):
    def test_ordinary(self):
        self.assertEqual(cost(PUMP, ("", "", "a", "b")), 5)
        self.assertEqual(cost(PUMP, ()), 0)
        self.assertEqual(cost(PUMP, ("b", "a")), 0)
        self.assertEqual(cost(BARE, ("b", "a", "", "b")), 15)
        self.assertEqual(cost(BARE, ("b",) * 60), 300)
        self.assertEqual(cost(PUMP, ("b",) * 60), 290)
        self.assertEqual(cost(BARE, ("",) * 3), 0)

    def test_price(self):
        for price in (1, 2, 19, 20):
            self.assertEqual(cost((price,) + BARE[1:], ("b", "b", "")), 2 * price)

    def test_exceptions_in_order(self):
        check_exceptions(self, cost)


class Definitions(unittest.TestCase):
    def test_nothing_is_changed(self):
        part, course = copy.deepcopy(PUMP), ("", [["b"], "a"], ("", []))
        kept = copy.deepcopy(course)
        for function in (state_after, payments, cost):
            with self.assertRaises(InvalidCourse):
                function(part, course)
        self.assertIs(is_course(part, course), False)
        self.assertEqual((part, course), (PUMP, kept))

    def test_long_walks_against_the_model(self):
        source = random.Random(6)
        for part in random_parts(7, 300):
            model, course, want, paid = Model(part), (), [], 0
            for day in range(source.randint(0, 60)):
                event = source.choice(model.events())
                payer = model.day(event)
                course += (event,)
                if payer is not None:
                    want.append((day, event, payer))
                    paid += part[0] if payer == "" else 0
            self.assertIs(is_course(part, course), True)
            self.assertEqual(state_after(part, course), model.state())
            self.assertEqual(payments(part, course), want)
            self.assertEqual(payments(part, course), want)
            self.assertEqual(cost(part, course), paid)


def check_exceptions(case, function):
    """Check InvalidPart, InvalidCourse, and that the first is raised if both apply."""
    check_errors(case, function, (PUMP, ("b",) * 60), [
        (InvalidPart, at(0, BAD_PARTS)), (InvalidCourse, at(1, BAD_COURSES))])
    with case.assertRaises(InvalidCourse):
        function(BARE, ("", "", "", ""))
