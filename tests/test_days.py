"""States and days: 2.1 to 2.3 and the definitions 0.7 to 0.10."""

import itertools
import random
import unittest

from coverterms.days import asked, events, is_state, new_state, next_state
from coverterms.errors import InvalidEvent, InvalidKind, InvalidPart, InvalidState
from tests.model import Model
from tests.samples import BARE, NARROW, PUMP, WIDE, random_parts
from tests.wrong import BAD_KINDS, BAD_PARTS, BAD_STATES, at, check_errors

NEW = (0, ((2, -1), (3, 1)))


def one_term(term, most=0, lives=(("a", 0), ("b", 2))):
    return (7, lives, most, (term,))


class NewState(unittest.TestCase):
    def test_ordinary(self):
        self.assertEqual(new_state(PUMP), NEW)
        self.assertEqual(new_state(BARE), (0, ()))
        self.assertEqual(new_state(NARROW), (0, ()))
        self.assertEqual(new_state(WIDE), (0, ((6, 2), (6, 2), (6, -1))))

    def test_days_and_claims_of_the_terms(self):
        for days, claims in itertools.product(range(1, 7), range(3)):
            for kinds, renewal, sale in [("", "anew", True), ("abc", "rest", False)]:
                part = one_term(("x", days, kinds, renewal, claims, sale))
                left = claims if claims > 0 else -1
                self.assertEqual(new_state(part), (0, ((days, left),)))

    def test_wrong_parts(self):
        for part in BAD_PARTS:
            with self.subTest(repr(part)[:80]), self.assertRaises(InvalidPart):
                new_state(part)


class IsState(unittest.TestCase):
    def test_all_states_near_the_limits(self):
        ages = range(-2, 6)
        lefts, claims = range(-2, 5), range(-3, 4)
        rows = list(itertools.product(itertools.product(lefts, claims), repeat=2))
        good = [
            (age, ((left, -1), (other, many)))
            for age in range(4) for left in range(3) for other in range(4) for many in range(2)
        ]
        found = [(age, row) for age in ages for row in rows if is_state(PUMP, (age, row))]
        self.assertEqual(sorted(found), sorted(good))

    def test_two_claims(self):
        part = one_term(("x", 1, "", "anew", 2, True), most=1)
        good = [(age, ((left, many),)) for age in (0, 1) for left in (0, 1) for many in (0, 1, 2)]
        tried = itertools.product(range(-1, 4), range(-1, 4), range(-2, 5))
        found = [
            (age, ((left, many),)) for age, left, many in tried
            if is_state(part, (age, ((left, many),)))
        ]
        self.assertEqual(found, good)

    def test_age(self):
        for most, lives, greatest in [
            (0, (("a", 0),), 0), (0, (("a", 3),), 3), (0, (("a", 6), ("b", 1)), 6),
            (0, (("a", 1), ("b", 2), ("c", 4)), 4), (1, (("a", 0), ("b", 6)), 1),
            (8, (("a", 0),), 8), (8, (("a", 6),), 8), (2, (("a", 2),), 2),
            (0, (("a", 0), ("b", 0), ("c", 0)), 0),
        ]:
            part = (5, lives, most, ())
            found = [age for age in range(-2, 12) if is_state(part, (age, ()))]
            self.assertEqual(found, list(range(greatest + 1)), part)

    def test_a_state_that_no_course_reaches(self):
        self.assertIs(is_state(PUMP, (0, ((0, -1), (3, 0)))), True)
        self.assertIs(is_state(PUMP, (3, ((2, -1), (3, 1)))), True)

    def test_returns_booleans(self):
        self.assertIs(is_state(PUMP, NEW), True)
        self.assertIs(is_state(BARE, (0, ())), True)
        self.assertIs(is_state(PUMP, (0, ())), False)

    def test_wrong_candidates(self):
        for candidate in BAD_STATES:
            with self.subTest(repr(candidate)[:80]):
                self.assertIs(is_state(PUMP, candidate), False)
        for candidate in [(0, []), [0, ()], (0, ((),)), (0,), (), (0, (), ()), (False, ())]:
            with self.subTest(repr(candidate)[:80]):
                self.assertIs(is_state(BARE, candidate), False)

    def test_wrong_parts(self):
        for part in BAD_PARTS:
            for candidate in [NEW, (0, ()), None]:
                with self.subTest(repr(part)[:80]), self.assertRaises(InvalidPart):
                    is_state(part, candidate)


class Events(unittest.TestCase):
    def test_ordinary(self):
        self.assertEqual(events(PUMP, NEW), ["", "b"])
        self.assertEqual(events(PUMP, (1, ((1, -1), (2, 1)))), ["", "a", "b"])
        self.assertEqual(events(PUMP, (3, ((0, -1), (0, 0)))), ["a", "b"])
        self.assertEqual(events(NARROW, (0, ())), ["", "c"])

    def test_every_age(self):
        lives = (("a", 4), ("b", 0), ("c", 2))
        want = [["", "b"], ["", "b"], ["", "b", "c"], ["", "b", "c"], ["", "a", "b", "c"]]
        for age in range(5):
            self.assertEqual(events((5, lives, 0, ()), (age, ())), want[age])
        for age in range(3):
            last = [event for event in want[age] if event != "" or age < 2]
            self.assertEqual(events((5, lives, 2, ()), (age, ())), last)

    def test_most_that_only_one_life_reaches(self):
        self.assertEqual(events((5, (("a", 6), ("b", 2)), 2, ()), (2, ())), ["b"])
        self.assertEqual(events((5, (("a", 6),), 8, ()), (5, ())), [""])
        self.assertEqual(events((5, (("a", 6),), 8, ()), (8, ())), ["a"])

    def test_without_most_days_without_faults_never_end(self):
        self.assertEqual(events((5, (("a", 6),), 0, ()), (6, ())), ["", "a"])

    def test_the_list_is_new(self):
        events(PUMP, NEW).append("c")
        self.assertEqual(events(PUMP, NEW), ["", "b"])

    def test_exceptions_in_order(self):
        check_errors(self, events, (PUMP, NEW), [
            (InvalidPart, at(0, BAD_PARTS)), (InvalidState, at(1, BAD_STATES))])


class Asked(unittest.TestCase):
    def test_example(self):
        self.assertEqual(asked(PUMP, (0, ((2, -1), (3, 1))), "a"), [0, 1])

    def test_ordinary(self):
        self.assertEqual(asked(PUMP, NEW, "b"), [0])
        self.assertEqual(asked(PUMP, NEW, "c"), [])
        self.assertEqual(asked(BARE, (0, ()), "a"), [])
        self.assertEqual(asked(WIDE, (0, ((6, 2), (6, 2), (6, -1))), "c"), [0, 1])

    def test_days_and_claims_left(self):
        for (left, claims), want in [
            ((0, 0), []), ((0, 1), []), ((1, 0), []), ((1, 1), [1]), ((3, 1), [1]), ((3, 0), []),
        ]:
            self.assertEqual(asked(PUMP, (2, ((0, -1), (left, claims))), "a"), want)
            self.assertEqual(asked(PUMP, (2, ((1, -1), (left, claims))), "a"), [0] + want)
            self.assertEqual(asked(PUMP, (2, ((1, -1), (left, claims))), "b"), [0])

    def test_whether_the_fault_is_possible_or_not(self):
        part = one_term(("x", 2, "abc", "anew", 0, True))
        self.assertEqual(events(part, (0, ((2, -1),))), ["", "a"])
        for kind in "abc":
            self.assertEqual(asked(part, (0, ((2, -1),)), kind), [0])

    def test_empty_kinds(self):
        part = one_term(("x", 2, "", "anew", 0, True))
        for kind in "abc":
            self.assertEqual(asked(part, (0, ((2, -1),)), kind), [])

    def test_the_list_is_new(self):
        asked(PUMP, NEW, "a").append(7)
        self.assertEqual(asked(PUMP, NEW, "a"), [0, 1])

    def test_exceptions_in_order(self):
        check_errors(self, asked, (PUMP, NEW, "a"), [
            (InvalidPart, at(0, BAD_PARTS)), (InvalidState, at(1, BAD_STATES)),
            (InvalidKind, at(2, BAD_KINDS))])


class NextState(unittest.TestCase):
    def check(self, part, state, event, want):
        self.assertEqual(next_state(part, state, event), want)

    def test_example(self):
        self.check(PUMP, (0, ((2, -1), (3, 1))), "", (1, ((1, -1), (2, 1))))

    def test_days_left_stop_at_none(self):
        self.check(PUMP, (1, ((0, -1), (1, 1))), "", (2, ((0, -1), (0, 1))))
        self.check(PUMP, (1, ((0, -1), (0, 0))), "", (2, ((0, -1), (0, 0))))

    def test_the_age_after_a_fault(self):
        for age in range(1, 4):
            self.check(BARE, (age, ()), "a", (1, ()))
            self.check(BARE, (age, ()), "b", (1, ()))
        self.check(BARE, (2, ()), "", (3, ()))

    def test_without_most_the_age_stays_at_the_greatest_life(self):
        part = (5, (("a", 2), ("b", 0)), 0, ())
        self.check(part, (1, ()), "", (2, ()))
        self.check(part, (2, ()), "", (2, ()))
        self.check(part, (2, ()), "a", (1, ()))
        self.check(NARROW, (0, ()), "", (0, ()))
        self.check(NARROW, (0, ()), "c", (0, ()))

    def test_the_first_that_can_be_asked_pays(self):
        self.check(PUMP, (1, ((2, -1), (3, 1))), "a", (1, ((1, -1), (2, 1))))
        self.check(PUMP, (1, ((0, -1), (1, 1))), "a", (1, ((0, -1), (2, 0))))
        self.check(PUMP, (1, ((1, -1), (1, 1))), "b", (1, ((0, -1), (0, 1))))

    def test_anew_and_rest(self):
        for kind, left in [("a", 3), ("b", 1)]:
            part = (7, (("a", 0), ("b", 0)), 0, (
                ("x", 4, "a", "anew", 2, False), ("y", 4, "b", "rest", 2, False)))
            state = (0, ((2, 2), (2, 2)))
            paid, other = (left, 1), (1, 2)
            self.check(part, state, kind, (0, (paid, other) if kind == "a" else (other, paid)))

    def test_claims(self):
        for claims, before, after in [(0, -1, -1), (1, 1, 0), (2, 2, 1), (2, 1, 0)]:
            for renewal, left in [("anew", 4), ("rest", 2)]:
                part = one_term(("x", 5, "a", renewal, claims, True))
                self.check(part, (2, ((3, before),)), "a", (1, ((left, after),)))

    def test_the_owner_buys_and_sale_renews(self):
        for sale, row in [(True, (4, 2)), (False, (2, 0))]:
            part = one_term(("x", 5, "a", "anew", 2, sale))
            self.check(part, (2, ((3, 0),)), "a", (1, (row,)))
            self.check(part, (2, ((3, 0),)), "b", (1, (row,)))
        for sale, row in [(True, (4, -1)), (False, (0, -1))]:
            part = one_term(("x", 5, "a", "rest", 0, sale))
            self.check(part, (2, ((0, -1),)), "a", (1, (row,)))

    def test_sale_renews_terms_of_other_kinds_too(self):
        part = (7, (("a", 0),), 0, (
            ("x", 5, "", "rest", 1, True), ("y", 5, "bc", "anew", 0, False),
            ("z", 1, "a", "anew", 2, True)))
        self.check(part, (0, ((0, 0), (3, -1), (0, 0))), "a", (0, ((4, 1), (2, -1), (0, 2))))

    def test_a_payer_that_pays_renews_no_other_term(self):
        part = (7, (("a", 0),), 0, (
            ("x", 5, "", "anew", 1, True), ("y", 5, "a", "anew", 0, True),
            ("z", 6, "a", "anew", 2, True)))
        self.check(part, (0, ((2, 0), (3, -1), (4, 1))), "a", (0, ((1, 0), (4, -1), (3, 1))))

    def test_a_state_that_no_course_reaches(self):
        self.check(PUMP, (3, ((2, -1), (3, 1))), "b", (1, ((1, -1), (2, 1))))

    def test_impossible_events(self):
        for part, state, event in [
            (PUMP, NEW, "a"), (PUMP, NEW, "c"), (PUMP, (3, ((0, -1), (0, 0))), ""),
            (BARE, (3, ()), ""), (BARE, (0, ()), "a"), (NARROW, (0, ()), "a"),
        ]:
            with self.subTest((state, event)), self.assertRaises(InvalidEvent):
                next_state(part, state, event)

    def test_exceptions_in_order(self):
        wrong = [event for event in BAD_KINDS if event != ""] + ["a", "c", "b ", ("",), [""]]
        check_errors(self, next_state, (PUMP, NEW, ""), [
            (InvalidPart, at(0, BAD_PARTS)), (InvalidState, at(1, BAD_STATES)),
            (InvalidEvent, at(2, wrong))])


class AgainstTheModel(unittest.TestCase):
    def test_long_walks(self):
        source = random.Random(3)
        for part in random_parts(4, 300):
            model, state = Model(part), new_state(part)
            for _ in range(40):
                self.assertEqual(state, model.state())
                self.assertIs(is_state(part, state), True)
                self.assertEqual(events(part, state), model.events())
                for kind in "abc":
                    self.assertEqual(asked(part, state, kind), model.asked(kind))
                event = source.choice(model.events())
                model.day(event)
                after = next_state(part, state, event)
                self.assertEqual(next_state(part, state, event), after)
                state = after
