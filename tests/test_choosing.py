"""Choosing payers: 10.1 to 10.3 and 0.2 (c)."""

import random
import unittest

from coverterms.choosing import best_choice, price_of_order, sure_cost, wrong_firsts
from coverterms.errors import InvalidEvent, InvalidNumber, InvalidPart, InvalidState, TooLarge
from coverterms.extremes import greatest_cost
from tests.samples import BARE, CHOOSE, CHOOSE_OVER, HUGE, KEPT, NARROW, OVER, PUMP, WIDE
from tests.samples import random_parts, small_parts
from tests.slow import all_rows, beginning, choice_closure, choices_from, closure, sure
from tests.wrong import BAD_KINDS, BAD_PARTS, BAD_STATES, at, bad_numbers, check_error
from tests.wrong import check_errors

NEW = (0, ((2, -1), (3, 1)))
# From the new state 352 states can be reached by choosing, from the other state more than 400.
FAR = (13, (("a", 3), ("b", 0), ("c", 3)), 0, (
    ("x", 6, "abc", "anew", 2, True), ("y", 4, "ab", "rest", 2, True),
    ("z", 6, "c", "rest", 2, False)))
FAR_STATE = (1, ((6, 2), (1, 0), (6, 2)))
# It is better to ask the second payer first: the first one covers everything.
SECOND = (7, (("a", 0), ("b", 0)), 0, (
    ("x", 6, "ab", "rest", 1, False), ("y", 6, "a", "rest", 1, False)))
# Buying early can be better than asking: these parts have states with such faults.
BUYING = (18, (("a", 6), ("b", 0), ("c", 2)), 3, (
    ("x", 4, "b", "rest", 2, True), ("yy", 6, "abc", "rest", 1, False)))
TRICKY = [
    BUYING,
    (4, (("a", 2), ("b", 5), ("c", 0)), 0, (
        ("xxxx", 6, "abc", "anew", 1, False), ("yyy", 4, "c", "rest", 2, True))),
    (12, (("a", 1), ("b", 2), ("c", 5)), 4, (
        ("xxxxxx", 5, "abc", "anew", 2, False), ("yyyy", 1, "ab", "rest", 2, True),
        ("zzzzzz", 5, "a", "rest", 2, True))),
    (12, (("a", 2), ("b", 0)), 8, (
        ("xxxx", 6, "abc", "anew", 2, False), ("yyyyy", 4, "abc", "anew", 1, False),
        ("zzz", 4, "b", "anew", 0, True))),
    (9, (("a", 0), ("b", 2), ("c", 3)), 2, (
        ("xxx", 6, "ac", "anew", 2, False), ("yyyyyy", 4, "bc", "anew", 2, True),
        ("zz", 5, "ac", "anew", 0, False))),
]


def totals(part, state, kind, many, known):
    """Return for each choice at a fault its number and the least cost that it makes sure."""
    return [
        (number, cost + sure(part, after, many - 1, known))
        for number, cost, after in choices_from(part, state)[kind]
    ]


class SureCost(unittest.TestCase):
    def test_example(self):
        self.assertEqual(sure_cost(BARE, 2), 10)

    def test_ordinary(self):
        self.assertEqual([sure_cost(PUMP, many) for many in range(5)], [0, 0, 0, 5, 10])
        self.assertEqual([sure_cost(BARE, many) for many in (0, 1, 20)], [0, 5, 100])
        self.assertEqual(sure_cost(KEPT, 20), 0)
        self.assertEqual(sure_cost(NARROW, 20), 20)
        self.assertEqual([sure_cost(WIDE, many) for many in (0, 6, 7, 12, 13)], [0, 0, 20, 20, 40])

    def test_asking_another_payer_than_the_first_one(self):
        self.assertEqual([sure_cost(SECOND, many) for many in range(4)], [0, 0, 7, 14])
        part = SECOND[:1] + ((("a", 0), ("b", 1)),) + SECOND[2:]
        self.assertEqual([sure_cost(part, many) for many in range(4)], [0, 0, 0, 7])
        self.assertEqual([greatest_cost(part, many) for many in range(4)], [0, 0, 7, 14])

    def test_against_the_slow_way(self):
        for part in small_parts(71, 150) + random_parts(72, 60) + TRICKY:
            if len(choice_closure(part, beginning(part))) <= 400:
                known = {}
                for many in (0, 1, 2, 3, 5, 8, 13, 20):
                    want = sure(part, beginning(part), many, known)
                    self.assertEqual(sure_cost(part, many), want)
                    greatest = greatest_cost(part, many)
                    self.assertEqual(price_of_order(part, many), greatest - want)
                    self.assertLessEqual(want, greatest)

    def test_up_to_400_states(self):
        self.assertEqual(len(choice_closure(CHOOSE, beginning(CHOOSE))), 400)
        self.assertEqual(len(choice_closure(CHOOSE_OVER, beginning(CHOOSE_OVER))), 401)
        self.assertEqual(len(closure(CHOOSE_OVER)), 162)
        self.assertEqual(sure_cost(CHOOSE, 20), sure(CHOOSE, beginning(CHOOSE), 20, {}))
        price_of_order(CHOOSE, 20)
        wrong_firsts(CHOOSE, 20)
        for function in (sure_cost, price_of_order, wrong_firsts):
            check_error(self, function, [CHOOSE_OVER, 1], TooLarge)
        for function in (sure_cost, price_of_order):
            check_error(self, function, [CHOOSE_OVER, 0], TooLarge)

    def test_exceptions_in_order(self):
        for function in (sure_cost, price_of_order):
            for many in (0, 20):
                check_errors(self, function, (PUMP, many), [
                    (InvalidPart, at(0, BAD_PARTS)), (InvalidNumber, at(1, bad_numbers(0, 20))),
                    (TooLarge, at(0, [CHOOSE_OVER, HUGE, OVER]))])


class PriceOfOrder(unittest.TestCase):
    def test_ordinary(self):
        for many in range(21):
            self.assertEqual(price_of_order(BARE, many), 0)
            self.assertEqual(price_of_order(KEPT, many), 0)
        part = SECOND[:1] + ((("a", 0), ("b", 1)),) + SECOND[2:]
        self.assertEqual([price_of_order(part, many) for many in range(5)], [0, 0, 7, 7, 7])

    def test_some_order_has_a_price(self):
        found = [price_of_order(part, 9) for part in small_parts(73, 100) + TRICKY]
        self.assertGreater(len([price for price in found if price > 0]), 3)
        self.assertGreaterEqual(min(found), 0)


class BestChoice(unittest.TestCase):
    def test_example(self):
        self.assertIsNone(best_choice(BARE, (0, ()), "b", 1))

    def test_ordinary(self):
        self.assertEqual(best_choice(PUMP, NEW, "b", 1), 0)
        self.assertEqual(best_choice(PUMP, (1, ((1, -1), (2, 1))), "a", 1), 0)
        self.assertEqual(best_choice(PUMP, (1, ((0, -1), (2, 1))), "a", 1), 1)
        self.assertIsNone(best_choice(PUMP, (1, ((0, -1), (2, 1))), "b", 20))

    def test_the_second_payer(self):
        state = beginning(SECOND)
        part = SECOND[:1] + ((("a", 0), ("b", 1)),) + SECOND[2:]
        self.assertEqual(best_choice(part, state, "a", 1), 0)
        self.assertEqual(best_choice(part, state, "a", 2), 1)

    def test_the_first_of_several(self):
        terms = tuple((payer, 6, "a", "anew", 0, False) for payer in ("x", "y", "z"))
        part = (5, (("a", 0),), 0, terms)
        for many in (1, 2, 20):
            self.assertEqual(best_choice(part, beginning(part), "a", many), 0)
            self.assertEqual(best_choice(part, (0, ((0, -1), (2, -1), (6, -1))), "a", 1), 1)

    def test_buying_although_a_payer_can_be_asked(self):
        # Asked at once, "yy" could not stand in for the "c" that may come later.
        state = (1, ((2, 0), (4, 1)))
        self.assertEqual(totals(BUYING, state, "b", 6, {}), [(1, 54), (None, 36)])
        self.assertIsNone(best_choice(BUYING, state, "b", 6))
        self.assertEqual(best_choice(BUYING, state, "b", 1), 1)

    def test_asking_comes_before_buying(self):
        # A claim that is used up at once costs as little as none, if nothing follows.
        part = (5, (("a", 0),), 0, (("x", 1, "a", "rest", 1, True),))
        for state, many, want in [
            ((0, ((1, 1),)), 1, 0), ((0, ((1, 0),)), 1, None), ((0, ((0, 1),)), 1, None),
        ]:
            self.assertEqual(best_choice(part, state, "a", many), want)

    def test_every_choice_against_the_slow_way(self):
        source = random.Random(74)
        counts = {"first": 0, "later": 0, "buy": 0, "must": 0, "same": 0}
        for part in small_parts(75, 100) + TRICKY:
            known = {}
            states = sorted(choice_closure(part, beginning(part)))
            many = 30 if part in TRICKY else 4
            states = source.sample(states, min(many, len(states)))
            for state in states + source.sample(all_rows(part), 1):
                for kind in choices_from(part, state):
                    for many in (1, 2, 4, 9, 20) if kind != "" else []:
                        found = best_choice(part, state, kind, many)
                        options = totals(part, state, kind, many, known)
                        least = min(total for number, total in options)
                        want = [number for number, total in options if total == least]
                        self.assertEqual(found, want[0])
                        counts["same"] += len(want) > 1 and want[-1] is None
                        if options[0][0] is None:
                            counts["must"] += 1
                        elif found is None:
                            counts["buy"] += 1
                        else:
                            counts["later" if found != options[0][0] else "first"] += 1
        self.assertGreater(min(counts.values()), 3, counts)

    def test_no_course_of_faults_makes_it_dearer_than_told(self):
        source = random.Random(76)
        for part in small_parts(77, 50) + TRICKY:
            for many in (3, 7, 12):
                told = sure_cost(part, many)
                for _ in range(5):
                    self.assertLessEqual(self.play(part, many, source), told)

    def play(self, part, many, source):
        """Return what days of any faults cost the owner who chooses best."""
        state, paid = beginning(part), 0
        for days_left in range(many, 0, -1):
            options = choices_from(part, state)
            event = source.choice(sorted(options))
            chosen = None if event == "" else best_choice(part, state, event, days_left)
            for number, cost, after in options[event]:
                if number == chosen:
                    state, paid = after, paid + cost
                    break
        return paid

    def test_states_that_can_be_reached_from_the_state(self):
        check_error(self, best_choice, [OVER, (0, ((2, 2), (5, 2), (5, 1))), "c", 1], TooLarge)
        self.assertIsNone(best_choice(OVER, (4, ((0, 0), (0, 0), (0, 0))), "c", 20))
        self.assertEqual(len(choice_closure(FAR, beginning(FAR))), 352)
        self.assertEqual(len(choice_closure(FAR, FAR_STATE)), 405)
        self.assertEqual(best_choice(FAR, beginning(FAR), "b", 1), 0)
        check_error(self, best_choice, [FAR, FAR_STATE, "b", 1], TooLarge)

    def test_exceptions_in_order(self):
        over = (0, ((6, 1), (3, 1), (6, 2)))
        wrong = BAD_KINDS + ["c", ("b",), ["b"]]
        wrong = [kind for kind in wrong if kind != "a"]
        check_error(self, best_choice, [PUMP, NEW, "a", 1], InvalidEvent)
        for many in (1, 20):
            check_errors(self, best_choice, (PUMP, NEW, "b", many), [
                (InvalidPart, at(0, BAD_PARTS)), (InvalidState, at(1, BAD_STATES)),
                (InvalidEvent, at(2, wrong)), (InvalidNumber, at(3, bad_numbers(1, 20))),
                (TooLarge, [{0: CHOOSE_OVER, 1: over, 2: "a"}])])


class WrongFirsts(unittest.TestCase):
    def test_example(self):
        self.assertEqual(wrong_firsts(BARE, 3), [])

    def test_ordinary(self):
        part = SECOND[:1] + ((("a", 0), ("b", 1)),) + SECOND[2:]
        self.assertEqual(wrong_firsts(part, 1), [])
        self.assertIn(((0, ((6, 1), (6, 1))), "a"), wrong_firsts(part, 2))
        self.assertEqual(wrong_firsts(KEPT, 20), [])

    def test_against_the_slow_way(self):
        found = bought = 0
        for part in small_parts(78, 100) + random_parts(79, 60) + [PUMP, WIDE] + TRICKY:
            if len(choice_closure(part, beginning(part))) > 400:
                continue
            known = {}
            for many in (1, 2, 5, 20):
                want = []
                for state in sorted(closure(part)):
                    for kind in sorted(choices_from(part, state)):
                        options = totals(part, state, kind, many, known)
                        best = min(total for number, total in options)
                        if options[0][0] is not None and options[0][1] > best:
                            want.append((state, kind))
                            bought += options[-1][1] == best
                self.assertEqual(wrong_firsts(part, many), want)
                found += len(want)
        self.assertGreater(found, 50)
        self.assertGreater(bought, 0)

    def test_if_there_are_none_the_order_has_no_price(self):
        for part in small_parts(80, 120):
            if not any(wrong_firsts(part, many) for many in range(1, 8)):
                self.assertEqual(price_of_order(part, 7), 0)

    def test_the_list_is_new(self):
        part = SECOND[:1] + ((("a", 0), ("b", 1)),) + SECOND[2:]
        kept = list(wrong_firsts(part, 2))
        wrong_firsts(part, 2).clear()
        self.assertEqual(wrong_firsts(part, 2), kept)

    def test_exceptions_in_order(self):
        for many in (1, 20):
            check_errors(self, wrong_firsts, (PUMP, many), [
                (InvalidPart, at(0, BAD_PARTS)), (InvalidNumber, at(1, bad_numbers(1, 20))),
                (TooLarge, at(0, [CHOOSE_OVER, HUGE, OVER]))])
