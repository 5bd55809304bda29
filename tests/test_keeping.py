"""How long the owner is kept from paying, and rounds: 6.1, 6.2 and 0.2 (a)."""

import itertools
import unittest

from coverterms.errors import InvalidPart, TooLarge
from coverterms.extremes import least_cost
from coverterms.keeping import free_round, is_free_round, is_round, longest_free, round_within
from coverterms.keeping import surely_free
from tests.samples import BARE, DEEP, DEEP_LIST, FULL, HUGE, KEPT, LONG, NARROW, ODD, OVER, PUMP
from tests.samples import WIDE, random_parts, small_parts
from tests.slow import beginning, closure, days_from, follow, walks
from tests.wrong import BAD_COURSES, BAD_PARTS, at, check_errors

WRONG = [(InvalidPart, at(0, BAD_PARTS)), (TooLarge, at(0, [OVER, HUGE]))]


def free_days(part):
    """Return the greatest number of free days, None if there is none, by sets of states."""
    level, days = {beginning(part)}, 0
    seen = []
    while level not in seen:
        seen.append(level)
        level = {
            after for state in level for event, payer, after in days_from(part, state)
            if payer != ""
        }
        if not level:
            return days
        days += 1
    return None


class LongestFree(unittest.TestCase):
    def test_ordinary(self):
        # Two quiet days, the seller's claim on the third, and two quiet days up to the age 3.
        self.assertEqual(longest_free(PUMP), 5)
        self.assertEqual(longest_free(BARE), 3)
        self.assertEqual(longest_free(WIDE), 8)

    def test_none(self):
        for part in [NARROW, KEPT, (5, (("a", 6),), 0, ())]:
            self.assertIsNone(longest_free(part))

    def test_most_alone(self):
        for most in range(1, 9):
            self.assertEqual(longest_free((5, (("a", 0),), most, ())), most)
            self.assertEqual(longest_free((5, (("a", 1),), most, ())), most)

    def test_more_than_60_days_are_not_needed(self):
        part = (5, (("a", 0),), 8, (
            ("x", 6, "a", "anew", 2, False), ("y", 6, "a", "anew", 2, False),
            ("z", 6, "a", "anew", 2, False)))
        self.assertEqual(longest_free(part), free_days(part))

    def test_against_the_slow_way(self):
        nones = 0
        for part in small_parts(31, 300) + random_parts(32, 150):
            if len(closure(part)) <= 400:
                want = free_days(part)
                self.assertEqual(longest_free(part), want)
                nones += want is None
        self.assertGreater(nones, 30)

    def test_by_trying_all(self):
        for part in small_parts(33, 150):
            levels = walks(part, 7)
            free = [number for number, level in enumerate(levels)
                    if any(cost == 0 for course, cost, state, paid in level)]
            found = longest_free(part)
            if free[-1] < 7:
                self.assertEqual(found, free[-1])
            elif found is not None:
                self.assertGreaterEqual(found, 7)

    def test_exceptions_in_order(self):
        check_errors(self, longest_free, (FULL,), WRONG)


class SurelyFree(unittest.TestCase):
    def test_example(self):
        self.assertEqual(surely_free(PUMP), 2)

    def test_ordinary(self):
        self.assertEqual(surely_free(BARE), 0)
        self.assertEqual(surely_free(NARROW), 0)
        self.assertEqual(surely_free(WIDE), 6)
        for least in range(7):
            self.assertEqual(surely_free((5, (("a", least),), 0, ())), least)

    def test_none(self):
        self.assertIsNone(surely_free(KEPT))
        always = ("x", 6, "c", "anew", 0, False)
        self.assertIsNone(surely_free((5, (("c", 5),), 5, (always,))))
        self.assertEqual(surely_free((5, (("c", 5),), 6, (always,))), 6)
        self.assertEqual(surely_free((5, (("c", 6),), 6, (always,))), 6)

    def test_by_trying_all(self):
        for part in small_parts(34, 200):
            levels = walks(part, 7)
            paying = [number for number, level in enumerate(levels)
                      if any(cost > 0 for course, cost, state, paid in level)]
            found = surely_free(part)
            if paying:
                self.assertEqual(found, paying[0] - 1)
            elif found is not None:
                self.assertGreaterEqual(found, 7)
            else:
                self.assertNotIn("", [
                    payer for state in closure(part)
                    for event, payer, after in days_from(part, state)])

    def test_exceptions_in_order(self):
        check_errors(self, surely_free, (FULL,), WRONG)


BAD_LOOPS = [loop for loop in ODD if loop != ()] + [
    (), "", "b", ["b"], [], None, ("a",), ("c",), ("", "a", "a", "c"), ("", "", ""), ("", None),
    ("",), ("b", ""), ("", True), ("", 0), (DEEP,), (DEEP_LIST,), ("bb",), ("", "ab"), ("", ["b"]),
]


class IsRound(unittest.TestCase):
    def test_ordinary(self):
        for begin, loop in [
            (("b",), ("b",)), (("b",), ("", "b")), (("b",), ("a",)), (("b", "a"), ("", "", "b")),
            (("",), ("b",)), (("", ""), ("b", "")), (("", "", ""), ("a", "", "")),
            (("b",), ("b", "a", "", "a")),
        ]:
            self.assertIs(is_round(BARE, (begin, loop)), True)
        for begin, loop in [((), ("b",)), ((), ("", "b")), (("b",), ("",)), (("", ""), ("b",))]:
            self.assertIs(is_round(BARE, (begin, loop)), False)

    def test_a_loop_from_the_beginning(self):
        self.assertIs(is_round(NARROW, ((), ("",))), True)
        self.assertIs(is_round(NARROW, ((), ("c", "", "c"))), True)

    def test_an_event_that_is_not_possible_after_the_beginning(self):
        self.assertIs(is_round(BARE, (("", "", ""), ("", "a", "", ""))), False)
        self.assertIs(is_round(BARE, (("", "", ""), ("c", "", ""))), False)
        self.assertIs(is_round(BARE, ((), ("a", "b"))), False)

    def test_the_whole_state_is_the_same(self):
        # The age is the same after the loop, but days and claims are not.
        part = (5, (("a", 0),), 0, (("x", 3, "a", "rest", 2, False),))
        self.assertIs(is_round(part, ((), ("a",))), False)
        self.assertIs(is_round(part, (("a",), ("a",))), False)
        self.assertIs(is_round(part, (("a", "a"), ("a",))), False)
        self.assertIs(is_round(part, (("a", "a", "a"), ("a",))), True)

    def test_one_to_sixty_events(self):
        for begin, loop in [(1, 1), (1, 60), (60, 1), (60, 60), (2, 59), (59, 2)]:
            self.assertIs(is_round(BARE, (("b",) * begin, ("b",) * loop)), True)
            self.assertIs(is_round(NARROW, (("",) * begin, ("c",) * loop)), True)
        for begin, loop in [(1, 0), (1, 61), (61, 1), (61, 61), (60, 0), (0, 0), (1, 1000)]:
            self.assertIs(is_round(BARE, (("b",) * begin, ("b",) * loop)), False)
            self.assertIs(is_round(NARROW, (("",) * begin, ("c",) * loop)), False)

    def test_against_the_slow_way(self):
        events = ["", "a", "b", "c"]
        begins = [begin for many in range(3) for begin in itertools.product(events, repeat=many)]
        loops = [loop for many in range(1, 4) for loop in itertools.product(events, repeat=many)]
        found = 0
        for part in small_parts(35, 12) + [KEPT, NARROW]:
            levels = walks(part, 5)
            after = {course: state for level in levels for course, cost, state, paid in level}
            costs = {course: cost for level in levels for course, cost, state, paid in level}
            for begin in begins:
                for loop in loops:
                    want = begin + loop in after and after[begin] == after[begin + loop]
                    self.assertIs(is_round(part, (begin, loop)), want)
                    free = want and costs[begin + loop] == 0
                    self.assertIs(is_free_round(part, (begin, loop)), free)
                    found += free
        self.assertGreater(found, 20)

    def test_wrong_candidates(self):
        wrong = ODD + [
            [("b",), ("b",)], (("b",),), (("b",), ("b",), ("b",)), ("b", "b"), (["b"], ["b"]),
            (("b",), None), (None, ("b",)), ("bb", "bb"), ((), ()), (("b",), (("b",),)),
        ]
        wrong += [(begin, ("b",)) for begin in BAD_COURSES] + [(("b",), x) for x in BAD_LOOPS]
        for candidate in wrong:
            with self.subTest(repr(candidate)[:120]):
                self.assertIs(is_round(PUMP, candidate), False)
                self.assertIs(is_free_round(PUMP, candidate), False)

    def test_wrong_parts(self):
        for function in (is_round, is_free_round):
            check_errors(self, function, (PUMP, (("b",), ("b",))), WRONG[:1])
            check_errors(self, function, (PUMP, None), WRONG[:1])
            self.assertIs(function(HUGE, None), False)


class IsFreeRound(unittest.TestCase):
    def test_ordinary(self):
        self.assertIs(is_free_round(KEPT, (("a",), ("a",))), True)
        self.assertIs(is_free_round(KEPT, (("",), ("", "", "b"))), True)
        self.assertIs(is_free_round(KEPT, (("",), ("", "", "a", ""))), False)
        self.assertIs(is_free_round(NARROW, ((), ("",))), True)

    def test_what_costs(self):
        self.assertIs(is_free_round(NARROW, ((), ("c",))), False)
        self.assertIs(is_free_round(NARROW, (("c",), ("",))), False)
        self.assertIs(is_free_round(NARROW, (("",), ("", "", "c"))), False)
        self.assertIs(is_free_round(BARE, (("b",), ("b",))), False)

    def test_one_to_sixty_events(self):
        for begin, loop in [(1, 1), (1, 60), (60, 1), (60, 60)]:
            self.assertIs(is_free_round(KEPT, (("a",) * begin, ("a",) * loop)), True)
        for begin, loop in [(1, 0), (1, 61), (61, 1)]:
            self.assertIs(is_free_round(KEPT, (("a",) * begin, ("a",) * loop)), False)


class FreeRound(unittest.TestCase):
    def test_example(self):
        self.assertIsNone(free_round(BARE))

    def test_ordinary(self):
        self.assertIsNone(free_round(PUMP))
        self.assertIsNone(free_round(WIDE))
        for part in [KEPT, NARROW, (5, (("a", 6),), 0, ()), (5, (("a", 0),), 0, PUMP[3])]:
            self.check(part, free_round(part))

    def check(self, part, found):
        self.assertIs(is_free_round(part, found), True)
        begin, loop = found
        state, cost = follow(part, beginning(part), begin)
        self.assertEqual(cost, 0)
        self.assertEqual(follow(part, state, loop), (state, 0))
        self.assertTrue(len(begin) <= 60 and 1 <= len(loop) <= 60)

    def test_for_ever_or_a_greatest_number_of_days(self):
        counts = [0, 0]
        for part in small_parts(36, 300) + random_parts(37, 150) + [LONG, FULL]:
            if len(closure(part)) <= 400:
                found, days = free_round(part), longest_free(part)
                self.assertIs(found is None, days is not None)
                counts[found is None] += 1
                if found is not None:
                    self.check(part, found)
                    self.assertEqual(least_cost(part, 60), 0)
                elif days < 60:
                    self.assertEqual(least_cost(part, days), 0)
                    self.assertGreater(least_cost(part, days + 1), 0)
        self.assertGreater(min(counts), 50)

    def test_a_beginning_or_a_loop_that_is_too_long(self):
        # No part is known that has only such rounds, so graphs are made up here.
        for begin, loop, fits in [
            (0, 1, True), (60, 1, True), (61, 1, False), (0, 60, True), (0, 61, False),
            (60, 60, True), (60, 61, False), (61, 60, False),
        ]:
            after = list(range(1, begin + loop)) + [begin]
            moves = [[("", 0, number)] for number in after]
            if fits:
                self.assertEqual(round_within(moves), (("",) * begin, ("",) * loop))
            else:
                with self.assertRaises(TooLarge):
                    round_within(moves)
        self.assertIsNone(round_within([[("", 0, 1)], [("", 0, 2), ("b", 0, 2)], []]))

    def test_one_round_of_several_is_short_enough(self):
        long = [[("", 0, 1), ("b", 0, 61)]] + [[("", 0, number)] for number in range(2, 61)]
        moves = long + [[("", 0, 0)], [("b", 0, 62)], [("a", 0, 61)]]
        self.assertEqual(round_within(moves), (("b",), ("b", "a")))

    def test_exceptions_in_order(self):
        check_errors(self, free_round, (FULL,), WRONG)
