"""Two lists of terms: 9.1 to 9.3 and 0.2 (b) and (d)."""

import random
import unittest

from coverterms.comparing import as_dear, greatest_difference, has_circle, idle_kinds, idle_terms
from coverterms.comparing import most_gained, never_dearer, parting_course
from coverterms.courses import cost
from coverterms.errors import InvalidPart, OtherLives, TooLarge, TooLong
from tests.samples import BARE, HUGE, KEPT, OTHERS, PAIR, PAIR_OVER, PARTING, PUMP
from tests.samples import pairs_of, random_parts, random_terms, small_parts
from tests.slow import beginning, common_days, follow, greatest_gain, pair_moves, walks
from tests.wrong import BAD_PARTS, at, check_error, check_errors

COMPARING = (never_dearer, parting_course, as_dear, greatest_difference)
CHEAP = (1,) + PUMP[1:]
# A part of which the second payer is never asked.
IDLE = (5, (("a", 0), ("b", 3)), 4, KEPT[3] + (("last", 6, "ab", "rest", 2, True),))


def first_parting(one, other, many):
    """Return the first of the shortest courses with at most so many days, None if none."""
    for level in common_days(one, other, many):
        better = [course for (left, right, change), course in level.items() if change > 0]
        if better:
            return min(better)
    return None


class NeverDearer(unittest.TestCase):
    def test_ordinary(self):
        self.assertIs(never_dearer(PUMP, BARE), True)
        self.assertIs(never_dearer(BARE, PUMP), False)
        self.assertIs(never_dearer(PUMP, PUMP), True)
        self.assertIs(never_dearer(BARE, (6,) + BARE[1:]), True)
        self.assertIs(never_dearer((6,) + BARE[1:], BARE), False)
        self.assertIs(never_dearer(CHEAP, PUMP), True)
        self.assertIs(never_dearer(PUMP, CHEAP), False)

    def test_neither_is_always_dearer(self):
        # With PUMP the first faults cost nothing, with the cheap part each one little.
        cheap = (1,) + BARE[1:]
        self.assertIs(never_dearer(PUMP, cheap), False)
        self.assertIs(never_dearer(cheap, PUMP), False)

    def test_a_part_that_is_dearer_only_after_many_days(self):
        for one, other in PARTING:
            self.assertIs(never_dearer(one, other), False)
            self.assertIs(never_dearer(other, one), False)

    def test_exactly_if_no_course_costs_more(self):
        counts = [0, 0]
        for one, other in pairs_of(61, 250):
            gain = greatest_gain(one, other)
            self.assertIs(never_dearer(one, other), gain == 0)
            self.assertIs(parting_course_or_long(one, other) is None, gain == 0)
            counts[gain == 0] += 1
        self.assertGreater(min(counts), 50)

    def test_up_to_2000_pairs(self):
        self.assertEqual(len(pair_moves(*PAIR)), 2000)
        self.assertEqual(len(pair_moves(*PAIR_OVER)), 2001)
        for function in COMPARING:
            function(*PAIR)
            function(PAIR[1], PAIR[0])
            for one, other in [PAIR_OVER, PAIR_OVER[::-1]]:
                check_error(self, function, [one, other], TooLarge)

    def test_more_than_400_states_each(self):
        # The states of one part alone are not limited here.
        self.assertIs(never_dearer(HUGE, HUGE), True)
        self.assertIs(as_dear(HUGE, HUGE), True)

    def test_exceptions_in_order(self):
        for function in COMPARING:
            check_errors(self, function, (BARE, PUMP), [
                (InvalidPart, at(0, BAD_PARTS)), (InvalidPart, at(1, BAD_PARTS)),
                (OtherLives, at(1, OTHERS) + at(0, OTHERS)),
                (TooLarge, [{0: PAIR_OVER[0], 1: PAIR_OVER[1]}])])


def parting_course_or_long(one, other):
    try:
        return parting_course(one, other)
    except TooLong:
        return TooLong


class PartingCourse(unittest.TestCase):
    def test_example(self):
        self.assertEqual(parting_course(BARE, PUMP), ("b",))

    def test_ordinary(self):
        self.assertIsNone(parting_course(PUMP, BARE))
        self.assertIsNone(parting_course(PUMP, PUMP))
        self.assertEqual(parting_course(PUMP, CHEAP), ("", "", "b"))
        self.assertEqual(parting_course((6,) + BARE[1:], BARE), ("b",))
        self.assertEqual(parting_course(PUMP, (1,) + BARE[1:]), ("", "", "b"))

    def test_a_course_that_costs_less_at_first(self):
        # Each fault costs 2 with the bare part, and 3 with the other one behind the first two.
        part = (3, (("a", 0),), 1, (("x", 6, "a", "rest", 2, False),))
        bare = (2, (("a", 0),), 1, ())
        self.assertEqual(parting_course(part, bare), ("a",) * 7)
        self.assertEqual(parting_course(bare, part), ("a",))

    def test_a_day_without_a_fault_is_before_a_fault(self):
        part = (2, (("a", 0), ("b", 0)), 0, (("x", 2, "ab", "anew", 1, False),))
        bare = (1, (("a", 0), ("b", 0)), 0, (("x", 1, "ab", "anew", 1, True),))
        self.assertEqual(parting_course(part, bare), first_parting(part, bare, 9))

    def test_sixty_days_and_more(self):
        one, other = PARTING[0]
        found = parting_course(one, other)
        self.assertEqual(len(found), 60)
        self.assertEqual(found, first_parting(one, other, 60))
        self.assertGreater(cost(one, found), cost(other, found))
        for one, other in PARTING[1:]:
            check_error(self, parting_course, [one, other], TooLong)
            self.assertIsNone(first_parting(one, other, 60))

    def test_first_of_the_shortest(self):
        lengths = {}
        for one, other in pairs_of(62, 250):
            want = first_parting(one, other, 12)
            if want is not None:
                self.assertEqual(parting_course(one, other), want)
                lengths[len(want)] = True
            elif greatest_gain(one, other) == 0:
                self.assertIsNone(parting_course(one, other))
            else:
                found = parting_course_or_long(one, other)
                if found is not TooLong:
                    self.assertGreater(len(found), 12)
                    self.assertGreater(
                        follow(one, beginning(one), found)[1],
                        follow(other, beginning(other), found)[1])
        self.assertGreater(len(lengths), 4)

    def test_by_trying_all_courses(self):
        for one, other in pairs_of(63, 100):
            found = [
                course
                for level, others in zip(walks(one, 5), walks(other, 5))
                for (course, paid, *rest), (same, other_paid, *rest) in zip(level, others)
                if paid > other_paid
            ]
            if found:
                self.assertEqual(parting_course(one, other), found[0])
            else:
                course = parting_course_or_long(one, other)
                self.assertTrue(course is None or course is TooLong or len(course) > 5)


class AsDear(unittest.TestCase):
    def test_ordinary(self):
        self.assertIs(as_dear(PUMP, PUMP), True)
        self.assertIs(as_dear(PUMP, BARE), False)
        self.assertIs(as_dear(BARE, PUMP), False)
        self.assertIs(as_dear(BARE, (6,) + BARE[1:]), False)
        self.assertIs(as_dear(KEPT, (1,) + KEPT[1:]), True)
        self.assertIs(as_dear(KEPT, IDLE), True)

    def test_the_order_of_payers_does_not_matter_here(self):
        x, y = ("x", 2, "a", "rest", 0, False), ("y", 2, "a", "rest", 0, False)
        lives = (("a", 0),)
        self.assertIs(as_dear((5, lives, 0, (x, y)), (5, lives, 0, (y, x))), True)
        self.assertIs(as_dear((5, lives, 0, (x, y)), (5, lives, 0, (y,))), True)

    def test_against_the_slow_way(self):
        counts = [0, 0]
        pairs = pairs_of(64, 150)
        pairs += [(one, other[:3] + (one[3],)) for one, other in pairs]
        for one, other in pairs:
            table = pair_moves(one, other)
            want = all(change == 0 for moves in table.values() for change, after in moves)
            self.assertIs(as_dear(one, other), want)
            both = greatest_gain(one, other) == 0 and greatest_gain(other, one) == 0
            self.assertIs(want, both)
            counts[want] += 1
        self.assertGreater(min(counts), 15)


class GreatestDifference(unittest.TestCase):
    def test_example(self):
        self.assertEqual(greatest_difference(PUMP, BARE), 0)

    def test_ordinary(self):
        self.assertIsNone(greatest_difference(BARE, PUMP))
        self.assertEqual(greatest_difference(PUMP, PUMP), 0)
        self.assertIsNone(greatest_difference(BARE, (4,) + BARE[1:]))
        self.assertEqual(greatest_difference((4,) + BARE[1:], BARE), 0)

    def test_a_bound(self):
        # The payer pays at most twice, and never again.
        lives = (("a", 0),)
        part = (7, lives, 0, (("x", 6, "a", "anew", 2, False),))
        self.assertEqual(greatest_difference((7, lives, 0, ()), part), 14)
        self.assertEqual(greatest_difference(part, (7, lives, 0, ())), 0)
        self.assertIsNone(greatest_difference((8, lives, 0, ()), part))
        self.assertEqual(greatest_difference((6, lives, 0, ()), part), 12)

    def test_a_difference_that_only_many_days_make_up_for(self):
        for one, other in PARTING:
            self.assertIsNone(greatest_difference(one, other))
            self.assertEqual(greatest_difference(other, one), greatest_gain(other, one))

    def test_against_the_slow_way(self):
        kinds = {}
        for one, other in pairs_of(65, 300):
            want = greatest_gain(one, other)
            self.assertEqual(greatest_difference(one, other), want)
            name = "none" if want is None else min(want, 1)
            kinds[name] = kinds.get(name, 0) + 1
        self.assertEqual(len(kinds), 3)
        self.assertGreater(min(kinds.values()), 20)

    def test_larger_parts_against_the_slow_way(self):
        source = random.Random(66)
        for part in random_parts(67, 60):
            terms = random_terms(source, source.randint(0, 3))
            other = (source.randint(1, 20),) + part[1:3] + (terms,)
            if len(pair_moves(part, other)) <= 300:
                self.assertEqual(greatest_difference(part, other), greatest_gain(part, other))


class Gains(unittest.TestCase):
    def test_has_circle(self):
        for sources, want in [
            ([None], False), ([0], True), ([None, 0, 1], False), ([None, 0, 0], False),
            ([2, 0, 1], True), ([None, 2, 1], True), ([None, 2, 3, 2], True),
            ([1, None, 1, 2], False), ([1, 0], True), ([3, 0, 1, None], False),
        ]:
            self.assertIs(has_circle(sources), want)

    def test_most_gained(self):
        self.assertEqual(most_gained([[("", 0, 0)]]), 0)
        self.assertEqual(most_gained([[("", -1, 0)]]), 0)
        self.assertIsNone(most_gained([[("", 1, 0)]]))
        self.assertEqual(most_gained([[("", 3, 1)], [("", -4, 2)], [("", 0, 2)]]), 3)
        self.assertEqual(most_gained([[("", -9, 1)], [("", 4, 2)], [("", -4, 1)]]), 0)
        self.assertIsNone(most_gained([[("", -9, 1)], [("", 5, 2)], [("", -4, 1)]]))
        self.assertEqual(most_gained([[("", 9, 1), ("a", 2, 1)], [("", 5, 2)], [("", -5, 1)]]), 14)


def without(part, number):
    return part[:3] + (part[3][:number] + part[3][number + 1:],)


def without_kind(part, number, kind):
    term = part[3][number]
    kinds = "".join(one for one in term[2] if one != kind)
    term = term[:2] + (kinds,) + term[3:]
    return part[:3] + (part[3][:number] + (term,) + part[3][number + 1:],)


def slow_as_dear(one, other):
    return all(change == 0 for moves in pair_moves(one, other).values() for change, after in moves)


# With one term of the first part, and one kind of the second, there are too many pairs.
TERM_OVER = (9, (("a", 1), ("b", 1)), 7, (
    ("x", 5, "ac", "rest", 2, True), ("y", 6, "b", "anew", 2, True),
    ("z", 5, "b", "rest", 2, False)))
KIND_OVER = (14, (("a", 3), ("b", 2), ("c", 0)), 0, (
    ("x", 5, "ac", "anew", 2, True), ("y", 5, "b", "anew", 1, False),
    ("z", 6, "bc", "anew", 2, True)))


class Idle(unittest.TestCase):
    def test_example(self):
        self.assertEqual(idle_terms(PUMP), [])

    def test_ordinary(self):
        self.assertEqual(idle_kinds(PUMP), [])
        self.assertEqual(idle_terms(BARE), [])
        self.assertEqual(idle_kinds(BARE), [])
        self.assertEqual(idle_terms(KEPT), [])
        self.assertEqual(idle_kinds(KEPT), [])
        self.assertEqual(idle_kinds(KEPT[:2] + (2,) + KEPT[3:]), [(0, "b")])

    def test_a_term_behind_one_that_always_pays(self):
        self.assertEqual(idle_terms(IDLE), ["last"])
        self.assertEqual(idle_kinds(IDLE), [(1, "a"), (1, "b")])

    def test_each_is_judged_alone(self):
        # Either of two equal payers may go, but not both.
        x, y = ("x", 6, "a", "anew", 0, False), ("y", 6, "a", "anew", 0, True)
        part = (5, (("a", 0),), 5, (y, x))
        self.assertEqual(idle_terms(part), ["y", "x"])
        self.assertEqual(idle_kinds(part), [(0, "a"), (1, "a")])
        self.assertIs(as_dear(part, part[:3] + ((),)), False)

    def test_no_kinds_and_kinds_that_can_not_come(self):
        terms = (("z", 6, "", "anew", 0, True), ("x", 6, "bc", "anew", 0, False))
        part = (5, (("a", 0),), 0, terms)
        self.assertEqual(idle_terms(part), ["z", "x"])
        self.assertEqual(idle_kinds(part), [(1, "b"), (1, "c")])

    def test_against_the_slow_way(self):
        many = [0, 0]
        for part in small_parts(68, 200):
            numbers = range(len(part[3]))
            terms = [
                part[3][number][0] for number in numbers
                if slow_as_dear(part, without(part, number))
            ]
            kinds = [
                (number, kind) for number in numbers for kind in part[3][number][2]
                if slow_as_dear(part, without_kind(part, number, kind))
            ]
            self.assertEqual(idle_terms(part), terms)
            self.assertEqual(idle_kinds(part), kinds)
            many[0] += len(terms)
            many[1] += len(kinds)
        self.assertGreater(min(many), 50)

    def test_idle_terms_never_change_a_cost(self):
        for part in small_parts(69, 120):
            changed = [
                without(part, number) for number, term in enumerate(part[3])
                if term[0] in idle_terms(part)
            ]
            changed += [without_kind(part, number, kind) for number, kind in idle_kinds(part)]
            for other in changed:
                for level, others in zip(walks(part, 5), walks(other, 5)):
                    self.assertEqual([row[:2] for row in level], [row[:2] for row in others])

    def test_the_lists_are_new(self):
        for function in (idle_terms, idle_kinds):
            kept = list(function(IDLE))
            function(IDLE).clear()
            self.assertEqual(function(IDLE), kept)

    def test_too_many_pairs_for_one_of_them(self):
        sizes = [len(pair_moves(TERM_OVER, without(TERM_OVER, number))) for number in range(3)]
        self.assertEqual([size > 2000 for size in sizes], [False, False, True])
        check_error(self, idle_terms, [TERM_OVER], TooLarge)
        sizes = [
            len(pair_moves(KIND_OVER, without_kind(KIND_OVER, number, kind)))
            for number, term in enumerate(KIND_OVER[3]) for kind in term[2]
        ]
        self.assertGreater(max(sizes), 2000)
        self.assertLessEqual(min(sizes), 2000)
        check_error(self, idle_kinds, [KIND_OVER], TooLarge)

    def test_exceptions_in_order(self):
        check_errors(self, idle_terms, (PUMP,), [
            (InvalidPart, at(0, BAD_PARTS)), (TooLarge, at(0, [TERM_OVER]))])
        check_errors(self, idle_kinds, (PUMP,), [
            (InvalidPart, at(0, BAD_PARTS)), (TooLarge, at(0, [KIND_OVER]))])
