"""What is left to the owner, and safe sets: 5.1 and 5.2."""

import random
import unittest

from coverterms.errors import InvalidKind, InvalidPart, TooLarge
from coverterms.gaps import can_be_left, is_safe_set, leaving_course, safe_set
from tests.samples import BARE, DEEP, DEEP_LIST, FULL, HUGE, KEPT, LONG, NARROW, ODD, OVER, PUMP
from tests.samples import random_parts, small_parts
from tests.slow import all_rows, beginning, closure, days_from, follow, walks
from tests.wrong import BAD_KINDS, BAD_PARTS, at, check_errors

# What each function raises for a wrong part or kind, and for too many states.
WRONG = [(InvalidPart, at(0, BAD_PARTS)), (InvalidKind, at(1, BAD_KINDS))]
LARGE = (TooLarge, at(0, [OVER, HUGE]))


def owner_pays(part, state, kind):
    return (kind, "") in [(event, payer) for event, payer, after in days_from(part, state)]


def is_safe(part, kind, states):
    """Return whether states that ascend are a safe set, word by word."""
    return beginning(part) in states and all(
        not owner_pays(part, state, kind)
        and all(after in states for event, payer, after in days_from(part, state))
        for state in states
    )


class CanBeLeft(unittest.TestCase):
    def test_ordinary(self):
        self.assertIs(can_be_left(PUMP, "a"), True)
        self.assertIs(can_be_left(PUMP, "b"), True)
        self.assertIs(can_be_left(BARE, "a"), True)
        self.assertIs(can_be_left(KEPT, "a"), False)
        self.assertIs(can_be_left(KEPT, "b"), False)

    def test_a_kind_that_can_not_come(self):
        self.assertIs(can_be_left(PUMP, "c"), False)
        self.assertIs(can_be_left((5, (("a", 4), ("b", 1)), 3, ()), "a"), False)
        self.assertIs(can_be_left((5, (("a", 3), ("b", 1)), 3, ()), "a"), True)

    def test_one_day_more_or_less(self):
        for days in range(1, 7):
            term = ("maker", days, "b", "anew", 0, False)
            self.assertIs(can_be_left((5, (("b", 0),), 3, (term,)), "b"), days < 4)

    def test_against_the_slow_way(self):
        for part in small_parts(21, 300) + random_parts(22, 100):
            states = closure(part)
            if len(states) <= 400:
                for kind in "abc":
                    want = any(owner_pays(part, state, kind) for state in states)
                    self.assertIs(can_be_left(part, kind), want)

    def test_exceptions_in_order(self):
        check_errors(self, can_be_left, (FULL, "a"), WRONG + [LARGE])


class LeavingCourse(unittest.TestCase):
    def test_example(self):
        self.assertEqual(leaving_course(PUMP, "b"), ("", "", "b"))

    def test_ordinary(self):
        self.assertEqual(leaving_course(PUMP, "a"), ("", "", "", "a"))
        self.assertEqual(leaving_course(BARE, "a"), ("", "a"))
        self.assertEqual(leaving_course(BARE, "b"), ("b",))
        self.assertEqual(leaving_course(NARROW, "c"), ("c",))

    def test_none(self):
        for part, kind in [(KEPT, "a"), (KEPT, "b"), (KEPT, "c"), (PUMP, "c"), (NARROW, "a")]:
            self.assertIsNone(leaving_course(part, kind))

    def test_a_day_without_a_fault_is_before_a_fault(self):
        # After "a" or "" the claim or the days of x are used up.
        part = (5, (("a", 0), ("b", 0)), 0, (("x", 1, "ab", "rest", 1, False),))
        self.assertEqual(leaving_course(part, "a"), ("", "a"))
        self.assertEqual(leaving_course(part, "b"), ("", "b"))

    def test_a_shorter_course_is_before_an_earlier_one(self):
        # Quiet days use up the days of x on the third day, a claim does at once.
        part = (5, (("a", 0),), 0, (("x", 3, "a", "anew", 1, False),))
        self.assertEqual(leaving_course(part, "a"), ("a", "a"))

    def test_first_of_the_shortest(self):
        many = 0
        for part in small_parts(23, 200):
            levels = walks(part, 6)
            for kind in "abc":
                ends = [
                    course for level in levels for course, cost, state, paid in level
                    if course[-1:] == (kind,) and paid[-1] == ""
                ]
                found = leaving_course(part, kind)
                many += len(ends) > 0
                if ends:
                    self.assertEqual(found, ends[0])
                elif found is not None:
                    self.assertGreater(len(found), 6)
                    before, cost = follow(part, beginning(part), found[:-1])
                    self.assertTrue(owner_pays(part, before, kind))
                else:
                    self.assertFalse(any(owner_pays(part, x, kind) for x in closure(part)))
        self.assertGreater(many, 50)

    def test_exceptions_in_order(self):
        check_errors(self, leaving_course, (FULL, "a"), WRONG + [LARGE])


class IsSafeSet(unittest.TestCase):
    def test_ordinary(self):
        states = [(0, ((5, -1),)), (1, ((4, -1),)), (2, ((3, -1),)), (3, ((2, -1),)),
                  (4, ((1, -1),))]
        for kind in "abc":
            self.assertIs(is_safe_set(KEPT, kind, states), True)
        self.assertIs(is_safe_set(KEPT, "a", states[::-1]), False)
        self.assertIs(is_safe_set(KEPT, "a", tuple(states)), False)
        self.assertIs(is_safe_set(PUMP, "b", []), False)

    def test_one_state_too_few(self):
        for part, kind in [(KEPT, "a"), (KEPT, "b"), (PUMP, "c"), (BARE, "c"), (LONG, "c")]:
            states = sorted(closure(part))
            safe = is_safe(part, kind, states)
            self.assertIs(is_safe_set(part, kind, states), safe)
            for place in range(len(states)):
                fewer = states[:place] + states[place + 1:]
                self.assertIs(is_safe_set(part, kind, fewer), False)

    def test_states_that_no_course_reaches(self):
        # Such states may be there if what follows them is there, too, and they are safe.
        states = sorted(closure(KEPT))
        more = sorted(states + [(2, ((4, -1),)), (3, ((3, -1),)), (4, ((2, -1),))])
        self.assertIs(is_safe_set(KEPT, "b", more), True)
        self.assertIs(is_safe_set(KEPT, "b", sorted(states + [(2, ((4, -1),))])), False)
        self.assertIs(is_safe_set(KEPT, "b", sorted(states + [(4, ((0, -1),))])), False)
        self.assertIs(is_safe_set(KEPT, "c", sorted(states + [(4, ((0, -1),))])), False)
        end = sorted(states + [(4, ((0, -1),)), (1, ((0, -1),)), (2, ((0, -1),)),
                               (3, ((0, -1),))])
        self.assertIs(is_safe_set(KEPT, "c", end), True)
        self.assertIs(is_safe_set(KEPT, "b", end), False)

    def test_a_state_in_which_the_fault_is_not_possible(self):
        # The owner would have to pay "a" on the first day if it could come then.
        part = (5, (("a", 1),), 1, (("x", 2, "a", "anew", 0, False),))
        self.assertIs(is_safe_set(part, "a", [(0, ((2, -1),)), (1, ((1, -1),))]), True)
        self.assertIs(is_safe_set(part, "a", [
            (0, ((0, -1),)), (0, ((2, -1),)), (1, ((0, -1),)), (1, ((1, -1),))]), False)
        self.assertIs(is_safe_set(part, "b", [
            (0, ((0, -1),)), (0, ((2, -1),)), (1, ((0, -1),)), (1, ((1, -1),))]), True)

    def test_not_ascending(self):
        states = sorted(closure(KEPT))
        self.assertIs(is_safe_set(KEPT, "a", states + states[-1:]), False)
        self.assertIs(is_safe_set(KEPT, "a", states[:1] + states), False)
        self.assertIs(is_safe_set(KEPT, "a", states[1:] + states[:1]), False)
        self.assertIs(is_safe_set(KEPT, "a", states[:2] + [states[3], states[2]] + states[4:]), False)

    def test_wrong_candidates(self):
        states = sorted(closure(KEPT))
        wrong = ODD + [
            {}, (), [()], [None], [DEEP], [DEEP_LIST], states + [None], states + ["ab"],
            [list(state) for state in states], [(age, list(rows)) for age, rows in states],
            states[:-1] + [(4, ((True, -1),))], [(False, ((5, -1),))] + states[1:],
            states[:1] + [(True, ((4, -1),))] + states[2:], states + [(5, ((1, -1),))],
            states + [(4, ((6, -1),))], states + [(4, ((1, 0),))], [(-1, ((5, -1),))] + states,
            [states], states + [()], states + [(4,)], states + [4], states + [(4, ())],
        ]
        for candidate in wrong:
            with self.subTest(repr(candidate)[:120]):
                self.assertIs(is_safe_set(KEPT, "a", candidate), False)
                self.assertIs(is_safe_set(KEPT, "c", candidate), False)

    def test_more_than_400_states(self):
        states = sorted(closure(OVER))
        self.assertIs(is_safe_set(OVER, "a", states), True)
        self.assertIs(is_safe_set(OVER, "c", states), False)
        self.assertIs(is_safe_set(OVER, "a", states[1:]), False)

    def test_against_the_slow_way(self):
        source = random.Random(24)
        counts = [0, 0]
        for part in small_parts(25, 150):
            rows = all_rows(part)
            for kind in "abc":
                for _ in range(3):
                    chosen = closure(part) | set(source.sample(rows, min(2, len(rows))))
                    for _ in range(30):
                        chosen |= {
                            after for state in chosen
                            for event, payer, after in days_from(part, state)
                            if source.random() < 0.9
                        }
                    chosen = sorted(chosen)
                    want = is_safe(part, kind, chosen)
                    self.assertIs(is_safe_set(part, kind, chosen), want)
                    counts[want] += 1
        self.assertGreater(min(counts), 50)

    def test_exceptions_in_order(self):
        check_errors(self, is_safe_set, (PUMP, "a", None), WRONG)
        check_errors(self, is_safe_set, (HUGE, "a", []), WRONG)


class SafeSet(unittest.TestCase):
    def test_example(self):
        self.assertIsNone(safe_set(PUMP, "b"))

    def test_ordinary(self):
        self.assertIsNone(safe_set(PUMP, "a"))
        self.assertIsNone(safe_set(BARE, "b"))
        self.assertEqual(safe_set(BARE, "c"), [(0, ()), (1, ()), (2, ()), (3, ())])
        self.assertEqual(safe_set(KEPT, "b"), sorted(closure(KEPT)))
        self.assertEqual(safe_set(NARROW, "a"), [(0, ())])

    def test_against_the_slow_way(self):
        for part in small_parts(26, 300) + random_parts(27, 100):
            states = sorted(closure(part))
            if len(states) <= 400:
                for kind in "abc":
                    found = safe_set(part, kind)
                    self.assertEqual(found, states if is_safe(part, kind, states) else None)
                    self.assertIs(found is None, can_be_left(part, kind))
                    self.assertIs(found is None, leaving_course(part, kind) is not None)
                    if found is not None:
                        self.assertIs(is_safe_set(part, kind, found), True)

    def test_the_list_is_new(self):
        safe_set(KEPT, "a").clear()
        self.assertEqual(len(safe_set(KEPT, "a")), 5)

    def test_exceptions_in_order(self):
        check_errors(self, safe_set, (FULL, "a"), WRONG + [LARGE])
