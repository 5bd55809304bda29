"""By trying all: 13.1 to 13.3."""

import itertools
import unittest
from unittest import mock

from coverterms import naive
from coverterms.choosing import sure_cost
from coverterms.comparing import parting_course
from coverterms.courses import is_course
from coverterms.errors import InvalidNumber, InvalidPart, OtherLives, TooLarge
from coverterms.naive import all_courses, naive_parting, naive_sure
from tests.model import Model
from tests.samples import BARE, CHOOSE_OVER, FULL, HUGE, KEPT, NARROW, OTHERS, OVER, PARTING
from tests.samples import PUMP, WIDE, pairs_of, random_parts, small_parts
from tests.slow import model_allows, walks
from tests.wrong import BAD_PARTS, at, bad_numbers, check_error, check_errors

# No part has just 3000 courses; these come nearest, with six days.
MANY = (7, (("a", 0), ("b", 0), ("c", 1)), 3, (("x", 2, "ab", "anew", 1, True),))
TOO_MANY = (7, (("a", 0), ("b", 0), ("c", 1)), 4, (("x", 2, "ab", "anew", 1, True),))


def least_sure(model, many):
    """Return the sure cost of so many days from the state of a model, trying all choices."""
    if many == 0:
        return 0
    begin, worst = model.state(), 0
    for event in model.events():
        model.put(begin)
        costs = []
        for number in [None] if event == "" else model.asked(event) + [None]:
            model.put(begin)
            if event != "":
                model.pay(number)
            model.end()
            paid = model.price if event != "" and number is None else 0
            costs.append(paid + least_sure(model, many - 1))
        worst = max(worst, min(costs))
    return worst


class AllCourses(unittest.TestCase):
    def test_example(self):
        self.assertEqual(all_courses(BARE, 1), [("",), ("b",)])

    def test_ordinary(self):
        self.assertEqual(all_courses(BARE, 0), [()])
        self.assertEqual(all_courses(BARE, 2), [
            ("", ""), ("", "a"), ("", "b"), ("b", ""), ("b", "a"), ("b", "b")])
        self.assertEqual(len(all_courses(NARROW, 8)), 256)
        self.assertEqual(all_courses(WIDE, 6), [("",) * 6])
        self.assertEqual(all_courses(WIDE, 7), [
            ("",) * 6 + (event,) for event in ("", "a", "b", "c")])
        self.assertEqual(all_courses((5, (("a", 1),), 1, ()), 8), [("",) + ("a",) * 7])

    def test_against_the_slow_ways(self):
        for part in random_parts(111, 50) + small_parts(112, 50):
            for many in (0, 1, 2, 3, 4):
                found = all_courses(part, many)
                self.assertEqual(found, sorted(course for course, *_ in walks(part, many)[many]))
                self.assertEqual(found, [
                    course for course in itertools.product(["", "a", "b", "c"], repeat=many)
                    if model_allows(part, course)])

    def test_they_do_not_depend_on_the_terms(self):
        for part in small_parts(113, 40):
            self.assertEqual(all_courses(part, 5), all_courses(part[:3] + ((),), 5))

    def test_many(self):
        for part in small_parts(114, 60):
            for many in (6, 7, 8):
                want = len(walks(part, many)[many])
                if want > 3000:
                    check_error(self, all_courses, [part, many], TooLarge)
                else:
                    found = all_courses(part, many)
                    self.assertEqual(len(found), want)
                    self.assertEqual(found, sorted(set(found)))
                    self.assertIs(all(is_course(part, course) for course in found[::97]), True)

    def test_up_to_3000_courses(self):
        self.assertEqual(len(all_courses(MANY, 6)), 2952)
        self.assertEqual(len(walks(TOO_MANY, 6)[6]), 3051)
        check_error(self, all_courses, [TOO_MANY, 6], TooLarge)
        check_error(self, all_courses, [TOO_MANY, 8], TooLarge)
        for limit, raises in [(2951, True), (2952, False), (2953, False)]:
            with mock.patch.object(naive, "MOST_COURSES", limit):
                if raises:
                    check_error(self, all_courses, [MANY, 6], TooLarge)
                else:
                    self.assertEqual(len(all_courses(MANY, 6)), 2952)
        self.assertEqual(naive.MOST_COURSES, 3000)

    def test_more_than_400_states_do_not_matter(self):
        for part in (OVER, HUGE, CHOOSE_OVER):
            self.assertGreater(len(all_courses(part, 4)), 10)

    def test_the_list_is_new(self):
        all_courses(PUMP, 2).clear()
        self.assertEqual(len(all_courses(PUMP, 2)), 6)

    def test_exceptions_in_order(self):
        for part, many in [(WIDE, 8), (MANY, 0), (MANY, 6)]:
            check_errors(self, all_courses, (part, many), [
                (InvalidPart, at(0, BAD_PARTS)), (InvalidNumber, at(1, bad_numbers(0, 8)))])
        check_errors(self, all_courses, (MANY, 6), [
            (InvalidPart, at(0, BAD_PARTS)), (InvalidNumber, at(1, bad_numbers(0, 8))),
            (TooLarge, at(0, [TOO_MANY, HUGE]))])


class NaiveParting(unittest.TestCase):
    def test_example(self):
        self.assertIsNone(naive_parting(PUMP, BARE, 3))

    def test_ordinary(self):
        self.assertEqual(naive_parting(BARE, PUMP, 1), ("b",))
        self.assertEqual(naive_parting(BARE, PUMP, 6), ("b",))
        self.assertIsNone(naive_parting(BARE, PUMP, 0))
        self.assertIsNone(naive_parting(PUMP, PUMP, 5))
        cheap = (19,) + WIDE[1:3] + ((),)
        self.assertIsNone(naive_parting(WIDE, cheap, 6))
        self.assertEqual(naive_parting(WIDE, cheap, 7), ("",) * 6 + ("a",))

    def test_against_the_slow_way(self):
        found = {}
        for one, other in pairs_of(115, 200):
            for many in (0, 1, 3, 5):
                want = None
                for level, other_level in zip(walks(one, many), walks(other, many)):
                    better = [
                        course for (course, cost, *_), (same, less, *_) in zip(level, other_level)
                        if cost > less
                    ]
                    want = min(better) if better and want is None else want
                self.assertEqual(naive_parting(one, other, many), want)
                length = None if want is None else len(want)
                found[length] = found.get(length, 0) + 1
        self.assertGreater(len(found), 4)

    def test_it_agrees_with_the_search(self):
        for one, other in pairs_of(116, 150):
            course = parting_course(one, other)
            for many in (2, 5):
                want = course if course is not None and len(course) <= many else None
                self.assertEqual(naive_parting(one, other, many), want)

    def test_a_course_that_is_longer_than_many_days(self):
        for one, other in PARTING:
            self.assertIsNone(naive_parting(one, other, 8))

    def test_exceptions_in_order(self):
        cheap = (1,) + MANY[1:3] + ((),)
        for one, other, many in [(MANY, cheap, 6), (cheap, MANY, 0)]:
            check_errors(self, naive_parting, (one, other, many), [
                (InvalidPart, at(0, BAD_PARTS)), (InvalidPart, at(1, BAD_PARTS)),
                (OtherLives, at(1, OTHERS)), (InvalidNumber, at(2, bad_numbers(0, 8)))])
        check_error(self, naive_parting, [TOO_MANY, TOO_MANY, 6], TooLarge)
        check_error(self, naive_parting, [TOO_MANY, TOO_MANY, 9], InvalidNumber)
        check_error(self, naive_parting, [TOO_MANY, MANY, 6], OtherLives)
        # There are too many courses, although a short one parts.
        parting = (1,) + TOO_MANY[1:]
        self.assertEqual(naive_parting(TOO_MANY, parting, 5), ("", "c"))
        check_error(self, naive_parting, [TOO_MANY, parting, 6], TooLarge)


class NaiveSure(unittest.TestCase):
    def test_example(self):
        self.assertEqual(naive_sure(BARE, 2), 10)

    def test_ordinary(self):
        self.assertEqual([naive_sure(PUMP, many) for many in range(6)], [0, 0, 0, 5, 10, 15])
        self.assertEqual([naive_sure(BARE, many) for many in range(6)], [0, 5, 10, 15, 20, 25])
        self.assertEqual([naive_sure(KEPT, many) for many in range(6)], [0] * 6)
        self.assertEqual(naive_sure(WIDE, 5), 0)

    def test_against_the_slow_way(self):
        for part in small_parts(117, 60) + random_parts(118, 30):
            for many in range(4):
                self.assertEqual(naive_sure(part, many), least_sure(Model(part), many))
        for part in (PUMP, BARE, NARROW, FULL):
            for many in (4, 5):
                self.assertEqual(naive_sure(part, many), least_sure(Model(part), many))

    def test_it_agrees_with_the_search(self):
        for part in small_parts(119, 80):
            for many in range(6):
                self.assertEqual(naive_sure(part, many), sure_cost(part, many))

    def test_more_than_400_states_do_not_matter(self):
        check_error(self, sure_cost, [CHOOSE_OVER, 5], TooLarge)
        for part in (CHOOSE_OVER, OVER, HUGE):
            for many in (0, 3):
                self.assertEqual(naive_sure(part, many), least_sure(Model(part), many))
            naive_sure(part, 5)

    def test_exceptions_in_order(self):
        for many in (0, 5):
            check_errors(self, naive_sure, (PUMP, many), [
                (InvalidPart, at(0, BAD_PARTS)), (InvalidNumber, at(1, bad_numbers(0, 5)))])
