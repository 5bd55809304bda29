"""Refusals: 16.1 and 16.2."""

import random
import unittest

from coverterms.days import asked, next_state
from coverterms.errors import InvalidKind, InvalidNumber, InvalidPart, InvalidState
from coverterms.refusals import closing, days_open, reasons, uncovered
from tests.model import Model
from tests.samples import BARE, HUGE, KEPT, NARROW, PUMP, WIDE, random_parts, small_parts
from tests.slow import all_rows
from tests.wrong import BAD_KINDS, BAD_PARTS, BAD_STATES, at, bad_numbers, check_errors

NEW = (0, ((2, -1), (3, 1)))
SPENT = (3, ((0, -1), (1, 0)))


def some_states(seed, many):
    """Return pairs of a part and one of its states, whether it results from a course or not."""
    source = random.Random(seed)
    found = []
    for part in random_parts(seed, many) + small_parts(seed, many) + [PUMP, BARE, KEPT, WIDE]:
        states = all_rows(part)
        found += [(part, state) for state in source.sample(states, min(8, len(states)))]
    return found


def asked_on_days(part, state, kind, many):
    """Return for so many days whether some payer could be asked, if no fault comes."""
    model = Model(part)
    model.put(state)
    found = []
    for _ in range(many):
        found.append(len(model.asked(kind)) > 0)
        model.end()
    return found


class Reasons(unittest.TestCase):
    def test_example(self):
        self.assertEqual(reasons(PUMP, SPENT, 1, "b"), ["claims", "kind"])

    def test_ordinary(self):
        self.assertEqual(reasons(PUMP, NEW, 0, "a"), [])
        self.assertEqual(reasons(PUMP, NEW, 1, "b"), ["kind"])
        self.assertEqual(reasons(PUMP, NEW, 0, "c"), ["kind"])
        self.assertEqual(reasons(PUMP, SPENT, 0, "a"), ["days"])
        self.assertEqual(reasons(PUMP, SPENT, 0, "c"), ["days", "kind"])
        self.assertEqual(reasons(PUMP, SPENT, 1, "a"), ["claims"])
        self.assertEqual(reasons(PUMP, (3, ((0, -1), (0, 0))), 1, "a"), ["claims", "days"])
        self.assertEqual(reasons(PUMP, (3, ((0, -1), (0, 0))), 1, "c"), ["claims", "days", "kind"])
        self.assertEqual(reasons(PUMP, (3, ((0, -1), (0, 1))), 1, "a"), ["days"])

    def test_third_term(self):
        state = (0, ((6, 2), (6, 2), (6, -1)))
        self.assertEqual(reasons(WIDE, state, 2, "a"), ["kind"])
        self.assertEqual(reasons(WIDE, state, 1, "a"), [])
        self.assertEqual(reasons(WIDE, (0, ((6, 2), (6, 0), (0, -1))), 1, "c"), ["claims"])
        self.assertEqual(reasons(WIDE, (0, ((6, 2), (6, 0), (0, -1))), 2, "c"), ["days", "kind"])

    def test_unlimited_claims_are_never_a_reason(self):
        part = (5, (("a", 0),), 0, (("x", 2, "a", "anew", 0, False),))
        for left in range(3):
            self.assertEqual(reasons(part, (0, ((left, -1),)), 0, "a"), [] if left else ["days"])

    def test_against_the_model(self):
        found = {}
        for part, state in some_states(161, 60):
            for number, term in enumerate(part[3]):
                for kind in "abc":
                    words = reasons(part, state, number, kind)
                    model = Model(part)
                    model.put(state)
                    want = []
                    if model.terms[number]["uses"] == 0:
                        want.append("claims")
                    if not model.terms[number]["left"]:
                        want.append("days")
                    if kind not in model.terms[number]["kinds"]:
                        want.append("kind")
                    self.assertEqual(words, want)
                    self.assertEqual(words == [], number in model.asked(kind))
                    self.assertEqual(words == [], number in asked(part, state, kind))
                    found[tuple(words)] = True
        self.assertEqual(len(found), 8)

    def test_the_list_is_new(self):
        reasons(PUMP, SPENT, 1, "b").clear()
        self.assertEqual(reasons(PUMP, SPENT, 1, "b"), ["claims", "kind"])

    def test_exceptions_in_order(self):
        for number, kind in [(0, "a"), (1, "c")]:
            check_errors(self, reasons, (PUMP, NEW, number, kind), [
                (InvalidPart, at(0, BAD_PARTS)), (InvalidState, at(1, BAD_STATES)),
                (InvalidNumber, at(2, bad_numbers(0, 1))), (InvalidKind, at(3, BAD_KINDS))])
        state = (0, ((6, 2), (6, 2), (6, -1)))
        check_errors(self, reasons, (WIDE, state, 2, "a"), [
            (InvalidNumber, at(2, bad_numbers(0, 2)))])

    def test_no_terms(self):
        for number in (0, 1, -1, None, False):
            with self.assertRaises(InvalidNumber):
                reasons(BARE, (0, ()), number, "a")


class Uncovered(unittest.TestCase):
    def test_ordinary(self):
        self.assertEqual(uncovered(PUMP, NEW), [])
        self.assertEqual(uncovered(PUMP, (1, ((0, -1), (2, 1)))), ["b"])
        self.assertEqual(uncovered(PUMP, SPENT), ["a", "b"])
        self.assertEqual(uncovered(BARE, (0, ())), ["a", "b"])
        self.assertEqual(uncovered(NARROW, (0, ())), ["c"])

    def test_only_the_kinds_of_lives(self):
        part = (5, (("b", 0),), 0, (("x", 2, "a", "anew", 1, False),))
        self.assertEqual(uncovered(part, (0, ((2, 1),))), ["b"])

    def test_whether_a_fault_is_possible_does_not_matter(self):
        self.assertEqual(uncovered((5, (("a", 6),), 0, ()), (0, ())), ["a"])

    def test_against_the_model(self):
        for part, state in some_states(162, 60):
            model = Model(part)
            model.put(state)
            want = [kind for kind in "abc" if kind in model.lives and not model.asked(kind)]
            self.assertEqual(uncovered(part, state), want)


class Closing(unittest.TestCase):
    def test_example(self):
        self.assertEqual(closing(PUMP, (1, ((1, -1), (2, 1)))), ["b"])

    def test_ordinary(self):
        self.assertEqual(closing(PUMP, NEW), [])
        self.assertEqual(closing(PUMP, (1, ((1, -1), (1, 1)))), ["a", "b"])
        self.assertEqual(closing(PUMP, (1, ((1, -1), (1, 0)))), ["a", "b"])
        self.assertEqual(closing(PUMP, (1, ((0, -1), (1, 1)))), ["a"])
        self.assertEqual(closing(PUMP, (1, ((0, -1), (1, 0)))), [])
        self.assertEqual(closing(BARE, (0, ())), [])

    def test_a_day_that_can_not_pass_without_a_fault(self):
        self.assertEqual(closing(PUMP, (3, ((1, -1), (1, 1)))), ["a", "b"])
        self.assertEqual(closing(PUMP, (3, ((1, -1), (2, 1)))), ["b"])

    def test_only_the_kinds_of_lives(self):
        part = (5, (("b", 0),), 0, (("x", 2, "abc", "anew", 1, False),))
        self.assertEqual(closing(part, (0, ((1, 1),))), ["b"])
        self.assertEqual(closing(part, (0, ((2, 1),))), [])

    def test_against_the_model(self):
        found = 0
        for part, state in some_states(163, 80):
            want = [
                kind for kind, least in part[1]
                if asked_on_days(part, state, kind, 2) == [True, False]
            ]
            self.assertEqual(closing(part, state), want)
            found += len(want)
        self.assertGreater(found, 40)

    def test_after_a_day_they_are_uncovered(self):
        for part, state in some_states(164, 60):
            if part[2] == 0 or state[0] < part[2]:
                after = next_state(part, state, "")
                want = [kind for kind in uncovered(part, after) if kind not in uncovered(part, state)]
                self.assertEqual(closing(part, state), want)


class DaysOpen(unittest.TestCase):
    def test_ordinary(self):
        self.assertEqual([days_open(PUMP, NEW, kind) for kind in "abc"], [3, 2, 0])
        self.assertEqual([days_open(PUMP, SPENT, kind) for kind in "abc"], [0, 0, 0])
        self.assertEqual(days_open(PUMP, (3, ((2, -1), (3, 0))), "a"), 2)
        self.assertEqual(days_open(PUMP, (3, ((0, -1), (1, 1))), "a"), 1)
        self.assertEqual(days_open(BARE, (0, ()), "a"), 0)
        self.assertEqual(days_open(WIDE, (0, ((1, 2), (6, 2), (6, -1))), "b"), 6)
        self.assertEqual(days_open(WIDE, (0, ((1, 2), (6, 0), (6, -1))), "b"), 1)

    def test_a_kind_that_does_not_come(self):
        part = (5, (("b", 0),), 0, (("x", 4, "ac", "anew", 1, False),))
        self.assertEqual([days_open(part, (0, ((4, 1),)), kind) for kind in "abc"], [4, 0, 4])

    def test_against_the_model(self):
        found = {}
        for part, state in some_states(165, 60):
            for kind in "abc":
                days = asked_on_days(part, state, kind, 8)
                many = days_open(part, state, kind)
                self.assertEqual(many, sum(days))
                self.assertEqual(days, [True] * many + [False] * (8 - many))
                found[many] = True
                if kind in [life for life, least in part[1]]:
                    self.assertEqual(many == 0, kind in uncovered(part, state))
                    self.assertEqual(many == 1, kind in closing(part, state))
        self.assertEqual(sorted(found), [0, 1, 2, 3, 4, 5, 6])


class Wrong(unittest.TestCase):
    def test_exceptions_in_order(self):
        for function in (uncovered, closing):
            for state in (NEW, SPENT):
                check_errors(self, function, (PUMP, state), [
                    (InvalidPart, at(0, BAD_PARTS)), (InvalidState, at(1, BAD_STATES))])
        for kind in "abc":
            check_errors(self, days_open, (PUMP, NEW, kind), [
                (InvalidPart, at(0, BAD_PARTS)), (InvalidState, at(1, BAD_STATES)),
                (InvalidKind, at(2, BAD_KINDS))])

    def test_many_states_do_not_matter(self):
        state = (0, ((6, 2), (6, 1), (5, 2)))
        self.assertEqual(uncovered(HUGE, state), [])
        self.assertEqual(closing(HUGE, state), [])
        self.assertEqual(days_open(HUGE, state, "a"), 6)

    def test_the_lists_are_new(self):
        state = (1, ((1, -1), (1, 0)))
        for function in (uncovered, closing):
            kept = list(function(PUMP, state))
            function(PUMP, state).append("x")
            self.assertEqual(function(PUMP, state), kept)
