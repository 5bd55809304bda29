"""All states, ways to them, and who ever pays: 4.1 to 4.3 and 0.11."""

import unittest

from coverterms.errors import InvalidKind, InvalidPart, InvalidState, TooLarge
from coverterms.reaching import all_states, course_to, never_asked, sole_payer
from tests.samples import BARE, FULL, HUGE, KEPT, LONG, NARROW, OVER, PUMP, WIDE
from tests.samples import random_parts, small_parts
from tests.slow import all_rows, beginning, closure, days_from, follow, walks
from tests.wrong import BAD_KINDS, BAD_PARTS, BAD_STATES, at, check_errors

NEW = (0, ((2, -1), (3, 1)))


def payers_of(part):
    """Return the sets of who pays the faults of each kind in any course."""
    found = {kind: set() for kind in "abc"}
    for state in closure(part):
        for event, payer, after in days_from(part, state):
            if event != "":
                found[event].add(payer)
    return found


class AllStates(unittest.TestCase):
    def test_example(self):
        self.assertEqual(len(all_states(BARE)), 4)

    def test_ordinary(self):
        self.assertEqual(all_states(BARE), [(0, ()), (1, ()), (2, ()), (3, ())])
        self.assertEqual(all_states(PUMP), [
            (0, ((2, -1), (3, 1))), (1, ((0, -1), (1, 1))), (1, ((0, -1), (2, 0))),
            (1, ((0, -1), (2, 1))), (1, ((1, -1), (2, 1))), (2, ((0, -1), (0, 1))),
            (2, ((0, -1), (1, 0))), (2, ((0, -1), (1, 1))), (3, ((0, -1), (0, 0))),
            (3, ((0, -1), (0, 1)))])

    def test_without_most(self):
        self.assertEqual(all_states(NARROW), [(0, ())])
        self.assertEqual(all_states((5, (("a", 2), ("b", 1)), 0, ())), [(0, ()), (1, ()), (2, ())])

    def test_states_that_no_course_reaches_are_left_out(self):
        part = (5, (("a", 1),), 2, (("x", 1, "a", "anew", 1, False),))
        self.assertEqual(all_states(part), [(0, ((1, 1),)), (1, ((0, 1),)), (2, ((0, 1),))])

    def test_up_to_400_states(self):
        self.assertEqual(len(all_states(FULL)), 400)
        self.assertEqual(all_states(FULL), sorted(closure(FULL)))
        self.assertEqual(len(closure(OVER)), 401)
        for part in (OVER, HUGE):
            with self.assertRaises(TooLarge):
                all_states(part)

    def test_against_the_slow_way(self):
        for part in random_parts(11, 300) + small_parts(12, 200) + [KEPT, LONG, WIDE]:
            want = sorted(closure(part))
            if len(want) > 400:
                with self.assertRaises(TooLarge):
                    all_states(part)
            else:
                self.assertEqual(all_states(part), want)

    def test_the_list_is_new(self):
        all_states(BARE).clear()
        self.assertEqual(len(all_states(BARE)), 4)
        self.assertIsInstance(all_states(BARE), list)

    def test_exceptions_in_order(self):
        check_errors(self, all_states, (PUMP,), [
            (InvalidPart, at(0, BAD_PARTS)), (TooLarge, at(0, [OVER, HUGE]))])


class CourseTo(unittest.TestCase):
    def test_example(self):
        self.assertEqual(course_to(PUMP, (1, ((1, -1), (2, 1)))), ("",))

    def test_ordinary(self):
        self.assertEqual(course_to(PUMP, NEW), ())
        self.assertEqual(course_to(PUMP, (2, ((0, -1), (1, 1)))), ("", ""))
        self.assertEqual(course_to(PUMP, (1, ((0, -1), (2, 0)))), ("", "", "a"))
        self.assertEqual(course_to(BARE, (3, ())), ("", "", ""))

    def test_a_day_without_a_fault_is_before_a_fault(self):
        # Both "" and "b" lead there on the first day.
        self.assertEqual(course_to(BARE, (1, ())), ("",))

    def test_none(self):
        for state in [(1, ((2, -1), (3, 1))), (0, ((0, -1), (3, 1))), (3, ((2, -1), (3, 0)))]:
            self.assertIsNone(course_to(PUMP, state))

    def test_a_long_way(self):
        way = [course_to(LONG, state) for state in all_states(LONG)]
        self.assertEqual(max(map(len, way)), 33)

    def test_first_of_the_shortest(self):
        for part in small_parts(13, 150):
            levels = walks(part, 6)
            first = {}
            for level in levels:
                for course, cost, state, paid in level:
                    first.setdefault(state, course)
            reached = closure(part)
            for state in all_rows(part):
                found = course_to(part, state)
                if state in first:
                    self.assertEqual(found, first[state])
                elif state in reached:
                    self.assertGreater(len(found), 6)
                    self.assertEqual(follow(part, beginning(part), found)[0], state)
                else:
                    self.assertIsNone(found)

    def test_exceptions_in_order(self):
        new = (0, ((2, 2), (5, 2), (5, 1)))
        check_errors(self, course_to, (PUMP, NEW), [
            (InvalidPart, at(0, BAD_PARTS)), (InvalidState, at(1, BAD_STATES)),
            (TooLarge, [{0: OVER, 1: new}, {0: OVER, 1: (0, ((0, 0), (0, 0), (0, 0)))}])])
        with self.assertRaises(InvalidState):
            course_to(OVER, NEW)


class NeverAsked(unittest.TestCase):
    def test_ordinary(self):
        self.assertEqual(never_asked(PUMP), [])
        self.assertEqual(never_asked(BARE), [])
        self.assertEqual(never_asked(KEPT), [])
        self.assertEqual(never_asked(WIDE), ["zzzzzz", "b", "c"])

    def test_the_order_of_the_terms(self):
        terms = tuple((payer, 6, "", "anew", 0, False) for payer in ("m", "z", "a"))
        self.assertEqual(never_asked((5, (("a", 0),), 0, terms)), ["m", "z", "a"])

    def test_a_payer_behind_one_who_always_pays(self):
        last = ("last", 6, "ab", "anew", 0, True)
        self.assertEqual(never_asked(KEPT[:3] + (KEPT[3] + (last,),)), ["last"])
        self.assertEqual(never_asked(KEPT[:3] + ((last,) + KEPT[3],)), ["maker"])

    def test_a_kind_that_can_not_come(self):
        term = ("x", 6, "a", "anew", 0, True)
        for lives, most, want in [
            ((("a", 4), ("b", 1)), 3, ["x"]), ((("a", 3), ("b", 1)), 3, []),
            ((("b", 1),), 3, ["x"]), ((("a", 6),), 0, ["x"]), ((("a", 5),), 0, []),
        ]:
            self.assertEqual(never_asked((5, lives, most, (term,))), want)

    def test_against_the_slow_way(self):
        for part in small_parts(14, 300) + random_parts(15, 100):
            if len(closure(part)) <= 400:
                paying = set().union(*payers_of(part).values())
                want = [term[0] for term in part[3] if term[0] not in paying]
                self.assertEqual(never_asked(part), want)

    def test_exceptions_in_order(self):
        check_errors(self, never_asked, (PUMP,), [
            (InvalidPart, at(0, BAD_PARTS)), (TooLarge, at(0, [OVER, HUGE]))])


class SolePayer(unittest.TestCase):
    def test_example(self):
        self.assertEqual(sole_payer(BARE, "a"), "")

    def test_ordinary(self):
        self.assertEqual(sole_payer(KEPT, "a"), "maker")
        self.assertEqual(sole_payer(KEPT, "b"), "maker")
        self.assertEqual(sole_payer(BARE, "b"), "")

    def test_several(self):
        self.assertIsNone(sole_payer(PUMP, "a"))
        self.assertIsNone(sole_payer(PUMP, "b"))

    def test_a_kind_that_can_not_come(self):
        self.assertIsNone(sole_payer(PUMP, "c"))
        self.assertIsNone(sole_payer((5, (("a", 4), ("b", 1)), 3, ()), "a"))
        self.assertEqual(sole_payer((5, (("a", 3), ("b", 1)), 3, ()), "a"), "")

    def test_against_the_slow_way(self):
        for part in small_parts(16, 300) + random_parts(17, 100):
            if len(closure(part)) <= 400:
                for kind, found in payers_of(part).items():
                    want = found.pop() if len(found) == 1 else None
                    self.assertEqual(sole_payer(part, kind), want)

    def test_exceptions_in_order(self):
        check_errors(self, sole_payer, (PUMP, "a"), [
            (InvalidPart, at(0, BAD_PARTS)), (InvalidKind, at(1, BAD_KINDS)),
            (TooLarge, at(0, [OVER, HUGE]))])
