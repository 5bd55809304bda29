"""Mended terms: 11.1 and 11.2."""

import itertools
import random
import unittest

from coverterms.errors import InvalidKind, InvalidNumber, InvalidPart, InvalidTerms, TooLarge
from coverterms.mending import fewest_added, least_days
from tests.samples import BARE, DEEP, DEEP_LIST, FULL, HUGE, KEPT, NARROW, ODD, OVER, PUMP
from tests.samples import random_terms, small_parts
from tests.slow import closure, days_from
from tests.wrong import BAD_KINDS, BAD_PARTS, at, bad_numbers, check_error, check_errors

NEW = ("new", 4, "ab", "anew", 0, False)
ONE = (5, (("b", 0),), 3, (("maker", 1, "b", "anew", 0, False),))
# With the offer LARGE there are 401 states, with SAFE no "c" is left to the owner.
BASE = (1, (("a", 0), ("b", 0), ("c", 0)), 2, (
    ("x", 6, "b", "anew", 1, True), ("y", 5, "bc", "anew", 0, False)))
LARGE = ("z", 6, "ab", "anew", 2, False)
SAFE = ("s", 6, "abc", "anew", 0, True)
VAIN = ("vain", 1, "", "rest", 1, False)
# Only with Q and P together, in this order, no "b" is left to the owner.
TWO = (5, (("a", 0), ("b", 0)), 1, (("x", 6, "a", "anew", 2, False),))
P = ("p", 3, "b", "anew", 0, True)
Q = ("q", 6, "b", "anew", 0, False)


def is_left(part, kind):
    return any(
        (event, payer) == (kind, "")
        for state in closure(part) for event, payer, after in days_from(part, state)
    )


def with_days(part, number, days):
    term = part[3][number]
    return part[:3] + (part[3][:number] + ((term[0], days) + term[2:],) + part[3][number + 1:],)


class LeastDays(unittest.TestCase):
    def test_examples(self):
        self.assertEqual(least_days(ONE, 0, "b"), 4)
        self.assertIsNone(least_days(PUMP, 0, "b"))

    def test_ordinary(self):
        self.assertEqual(least_days(KEPT, 0, "a"), 5)
        self.assertEqual(least_days(KEPT, 0, "b"), 5)
        self.assertIsNone(least_days(PUMP, 1, "a"))
        for most in range(1, 9):
            part = (5, (("b", 0),), most, (("maker", 6, "b", "anew", 0, False),))
            self.assertEqual(least_days(part, 0, "b"), most + 1 if most < 6 else None)

    def test_a_kind_that_is_never_left(self):
        self.assertEqual(least_days(PUMP, 0, "c"), 1)
        self.assertEqual(least_days(PUMP, 1, "c"), 1)
        self.assertEqual(least_days((5, (("a", 4), ("b", 1)), 3, PUMP[3]), 1, "a"), 1)

    def test_the_own_days_of_the_term_do_not_matter(self):
        for days in range(1, 7):
            self.assertEqual(least_days(with_days(ONE, 0, days), 0, "b"), 4)

    def test_more_days_do_not_always_help(self):
        part = (17, (("a", 2), ("c", 0)), 5, (
            ("x", 3, "abc", "anew", 2, True), ("y", 5, "b", "rest", 2, True),
            ("z", 6, "ac", "anew", 0, True)))
        safe = [days for days in range(1, 7) if not is_left(with_days(part, 0, days), "c")]
        self.assertEqual(safe, [1])
        self.assertEqual(least_days(part, 0, "c"), 1)

    def test_against_the_slow_way(self):
        counts = {}
        for part in small_parts(81, 150):
            for number in range(len(part[3])):
                for kind, least in part[1]:
                    safe = [
                        days for days in range(1, 7)
                        if not is_left(with_days(part, number, days), kind)
                    ]
                    want = safe[0] if safe else None
                    self.assertEqual(least_days(part, number, kind), want)
                    counts[want] = counts.get(want, 0) + 1
        self.assertGreater(len(counts), 4)

    def test_too_many_states_with_one_of_the_numbers(self):
        # No "a" can come, so one day is enough; but with five and six there are too many states.
        part = OVER
        sizes = [len(closure(with_days(part, 2, days))) for days in range(1, 7)]
        self.assertEqual([size > 400 for size in sizes], [False] * 4 + [True] * 2)
        for days in (1, 5, 6):
            check_error(self, least_days, [with_days(part, 2, days), 2, "a"], TooLarge)
            check_error(self, least_days, [with_days(part, 2, days), 2, "c"], TooLarge)

    def test_exceptions_in_order(self):
        for number in (0, 1):
            check_errors(self, least_days, (PUMP, number, "b"), [
                (InvalidPart, at(0, BAD_PARTS)), (InvalidNumber, at(1, bad_numbers(0, 2))),
                (InvalidKind, at(2, BAD_KINDS)), (TooLarge, at(0, [OVER, HUGE]))])
        check_error(self, least_days, [PUMP, 2, "b"], InvalidNumber)
        for number in (0, -1, 1):
            check_error(self, least_days, [BARE, number, "b"], InvalidNumber)
        check_error(self, least_days, [ONE, 1, "b"], InvalidNumber)
        least_days(BASE, 1, "b")


class FewestAdded(unittest.TestCase):
    def test_example(self):
        self.assertEqual(fewest_added(BARE, "b", (NEW,)), (0,))

    def test_ordinary(self):
        self.assertEqual(fewest_added(BARE, "a", (VAIN, NEW)), (1,))
        self.assertIsNone(fewest_added(BARE, "a", (VAIN,)))
        self.assertIsNone(fewest_added(PUMP, "b", (NEW, VAIN)))
        self.assertEqual(fewest_added(BARE, "b", (VAIN, NEW[:2] + ("a",) + NEW[3:], NEW)), (2,))

    def test_none_are_needed(self):
        for offers in [(), (NEW,), (NEW, VAIN, LARGE, SAFE)]:
            self.assertEqual(fewest_added(KEPT, "a", offers), ())
            self.assertEqual(fewest_added(PUMP, "c", offers), ())
        self.assertIsNone(fewest_added(BARE, "b", ()))

    def test_two_are_needed(self):
        # "q" lasts until the claims of "x" are used up, "p" begins anew at each sale behind that.
        for offers, want in [
            ((Q, P), (0, 1)), ((P, Q), None), ((P,), None), ((Q,), None), ((VAIN, Q, P), (1, 2)),
            ((Q, VAIN, P), (0, 2)), ((Q, P, VAIN), (0, 1)), ((P, VAIN, Q, P), (2, 3)),
            ((Q, P, Q, P), (0, 1)), ((VAIN, Q, P, SAFE), (3,)),
        ]:
            self.assertEqual(fewest_added(TWO, "b", offers), want)
            self.assertEqual(self.slow(TWO, "b", offers), want)

    def test_first_of_the_shortest(self):
        source = random.Random(82)
        counts = {}
        tried = [(part, part[1][0][0], offered(source)) for part in small_parts(83, 150)]
        for _ in range(150):
            offers = [P, Q, VAIN] + list(offered(source))
            source.shuffle(offers)
            tried.append((TWO, "b", tuple(offers[:4])))
        for part, kind, offers in tried:
            want = self.slow(part, kind, offers)
            self.assertEqual(fewest_added(part, kind, offers), want)
            counts[want] = counts.get(want, 0) + 1
        self.assertGreater(len(counts), 7, counts)

    def slow(self, part, kind, offers):
        for many in range(len(offers) + 1):
            for numbers in itertools.combinations(range(len(offers)), many):
                terms = part[3] + tuple(offers[number] for number in numbers)
                names = [term[0] for term in terms]
                if len(terms) <= 3 and len(set(names)) == len(names):
                    if not is_left(part[:3] + (terms,), kind):
                        return numbers
        return None

    def test_payers_that_the_part_has_already(self):
        vain = ("new",) + VAIN[1:]
        part = BARE[:3] + ((vain,),)
        self.assertIsNone(fewest_added(part, "b", (NEW,)))
        self.assertEqual(fewest_added(part, "b", (NEW, ("other",) + NEW[1:])), (1,))
        # Two offers of the same payer can not be added together, but each alone can.
        self.assertEqual(fewest_added(BARE, "b", (vain, NEW)), (1,))
        self.assertEqual(fewest_added(BARE, "b", (NEW, NEW)), (0,))
        self.assertIsNone(fewest_added(TWO, "b", (Q, ("q",) + P[1:])))

    def test_no_more_than_three_terms(self):
        full = BARE[:3] + (tuple((name, 1, "", "rest", 1, False) for name in "pqr"),)
        self.assertIsNone(fewest_added(full, "b", (NEW,)))
        self.assertEqual(fewest_added(full[:3] + (full[3][:2],), "b", (NEW,)), (0,))
        self.assertIsNone(fewest_added(TWO[:3] + (TWO[3] + (VAIN,),), "b", (Q, P)))

    def test_too_many_states(self):
        self.assertEqual(len(closure(BASE[:3] + (BASE[3] + (LARGE,),))), 401)
        self.assertTrue(is_left(BASE, "c"))
        self.assertFalse(is_left(BASE[:3] + (BASE[3] + (SAFE,),), "c"))
        self.assertEqual(fewest_added(BASE, "c", (SAFE,)), (0,))
        self.assertEqual(fewest_added(BASE, "c", (SAFE, LARGE)), (0,))
        self.assertEqual(fewest_added(BASE, "c", (VAIN, SAFE, LARGE)), (1,))
        for offers in [(LARGE, SAFE), (LARGE,), (VAIN, LARGE), (VAIN, LARGE, SAFE)]:
            check_error(self, fewest_added, [BASE, "c", offers], TooLarge)
        # What is not a part is left out, however many states there might be.
        mine = ("x",) + LARGE[1:]
        self.assertEqual(fewest_added(BASE, "c", (mine, SAFE)), (1,))
        self.assertIsNone(fewest_added(BASE, "c", (mine, VAIN)))

    def test_none_to_four_offers(self):
        offers = (VAIN, ("p",) + VAIN[1:], ("q",) + VAIN[1:], NEW, ("r",) + VAIN[1:])
        self.assertEqual(fewest_added(BARE, "b", offers[:4]), (3,))
        check_error(self, fewest_added, [BARE, "b", offers], InvalidTerms)

    def test_exceptions_in_order(self):
        wrong = [value for value in ODD if value != ()] + [
            [NEW], [], (NEW, None), (NEW, ()), (list(NEW),), NEW, (NEW,) * 5, (VAIN,) * 5,
            (NEW[:5],), (NEW + (0,),), (NEW[:1] + (True,) + NEW[2:],), (NEW[:1] + (7,) + NEW[2:],),
            (NEW[:1] + (0,) + NEW[2:],), (NEW[:2] + ("ba",) + NEW[3:],), (DEEP,), (DEEP_LIST,),
            (NEW[:3] + ("old",) + NEW[4:],), (NEW[:4] + (3,) + NEW[5:],), (NEW[:5] + (0,),),
            ("abcdef",), (NEW, NEW, NEW, "x"), ((NEW,),), (("",) + NEW[1:],),
        ]
        check_errors(self, fewest_added, (FULL, "a", (NEW,) * 4), [
            (InvalidPart, at(0, BAD_PARTS)), (InvalidKind, at(1, BAD_KINDS)),
            (InvalidTerms, at(2, wrong)), (TooLarge, at(0, [OVER, HUGE]))])
        check_errors(self, fewest_added, (NARROW, "c", ()), [
            (InvalidPart, at(0, BAD_PARTS)), (InvalidKind, at(1, BAD_KINDS)),
            (InvalidTerms, at(2, wrong)), (TooLarge, at(0, [OVER, HUGE]))])


def offered(source):
    """Return up to four terms, of which some have the same payer."""
    terms = random_terms(source, 3) + random_terms(source, 1)
    names = ["x", "p", "q", source.choice("pqr")]
    found = [(name, term[1]) + term[2:] for name, term in zip(names, terms)]
    return tuple(found[:source.randint(0, 4)])
