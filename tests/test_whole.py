"""The whole program: 0.2 (a) to (d), 0.3, and the examples of 0.12."""

import copy
import importlib
import inspect
import random
import unittest

from coverterms.choosing import best_choice, price_of_order, sure_cost
from coverterms.comparing import as_dear, greatest_difference, idle_kinds, idle_terms
from coverterms.comparing import never_dearer, parting_course
from coverterms.courses import cost, is_course
from coverterms.days import events
from coverterms.depot import Depot
from coverterms.errors import CoverError, InvalidKind, InvalidPart, InvalidRecord
from coverterms.extremes import greatest_cost
from coverterms.formats import format_part
from coverterms.keeping import free_round, is_free_round, longest_free
from coverterms.naive import all_courses, naive_parting, naive_sure
from coverterms.parts import with_terms
from coverterms.workshop import Workshop
from tests.samples import BARE, DEEP, DEEP_LIST, FULL, KEPT, NARROW, ODD, PUMP, pairs_of
from tests.samples import small_parts
from tests.slow import beginning, choices_from, follow, walks
from tests.test_form import INTERFACE

STATE = (1, ((1, -1), (2, 1)))
COURSE = ("", "a", "b", "", "b")
RECORD = (("", ""), ("a", "seller"), ("b", ""))
ROUND = (("b",) * 4, ("b",))
WEIGHTS = (2, (1, 3))
OFFERS = (("new", 4, "ab", "anew", 0, False), ("old", 1, "a", "rest", 2, True))
# Good arguments by the names of parameters, and by functions where these do not do.
GOOD = {
    "part": PUMP, "terms": OFFERS, "state": STATE, "kind": "b", "event": "a", "course": COURSE,
    "many": 3, "one": PUMP, "other": BARE, "number": 1, "offers": OFFERS,
    "text": format_part(PUMP), "weights": WEIGHTS, "faults": 2, "cost": 5, "goods": (PUMP, BARE),
    "record": RECORD,
}
CANDIDATES = {
    "is_term": PUMP[3][0], "is_part": PUMP, "is_state": STATE, "is_course": COURSE,
    "is_safe_set": [STATE], "is_round": ROUND, "is_free_round": ROUND, "mean_of": ROUND,
    "is_weights": WEIGHTS, "are_goods": (PUMP, BARE), "is_record": RECORD,
}
NONE_TOLD = """
course_to sole_payer leaving_course safe_set longest_free surely_free free_round parting_course
greatest_difference best_choice least_days fewest_added naive_parting greatest_with faults_for
greatest_of_all worst_shares first_wrong first_off
""".split()
# What these raise besides InvalidPart.
OTHER_ERRORS = {"is_allowed": InvalidRecord, "is_safe_set": InvalidKind}
OTHER_VALUES = ODD + [
    3, 6, 7, 60, 61, "", "a", "b", "c", "anew", "rest", "maker", "seller", "pump", "one", [DEEP],
    (DEEP_LIST,), PUMP, BARE, STATE, COURSE, RECORD, ROUND, WEIGHTS, -(10 ** 20),
]


def functions():
    """Return the name, the function and good arguments of each function of the interface."""
    found = []
    for module, table in INTERFACE.items():
        for name, parameters in table.items():
            arguments = [
                CANDIDATES[name] if parameter == "candidate" else GOOD[parameter]
                for parameter in parameters.split()
            ]
            if name == "parse_course":
                arguments[1] = "..ab"
            if name == "is_safe_set":
                arguments[1] = "c"
            found.append((name, getattr(importlib.import_module(f"coverterms.{module}"), name),
                          arguments))
    return found


def changed_inside(source, value):
    """Return a value that differs from another one at some place inside it."""
    if isinstance(value, (tuple, list)) and value and source.random() < 0.8:
        items = list(value)
        place = source.randrange(len(items))
        choice = source.random()
        if choice < 0.75:
            items[place] = changed_inside(source, items[place])
        elif choice < 0.85:
            del items[place]
        else:
            items.insert(place, source.choice(items))
        other_kind = source.random() < 0.05
        return items if isinstance(value, list) != other_kind else tuple(items)
    return copy.deepcopy(source.choice(OTHER_VALUES))


def spoil(value):
    """Change all lists inside a returned value."""
    if isinstance(value, list):
        for item in value:
            spoil(item)
        value.append("spoilt")
        value.reverse()
    if isinstance(value, tuple):
        for item in value:
            spoil(item)


def answer(function, arguments):
    """Return what a function returns, or the class of the error that it raises."""
    try:
        return function(*arguments)
    except CoverError as error:
        return error.__class__


class EveryFunction(unittest.TestCase):
    def test_all_are_tried(self):
        many = sum(len(table) for table in INTERFACE.values())
        self.assertEqual(len({name for name, function, arguments in functions()}), many)
        self.assertEqual(len(INTERFACE), 17)

    def test_an_equal_answer_when_called_again(self):
        for name, function, arguments in functions():
            with self.subTest(name):
                kept = copy.deepcopy(arguments)
                first = function(*arguments)
                want = copy.deepcopy(first)
                spoil(first)
                second = function(*copy.deepcopy(kept))
                self.assertEqual(second, want)
                self.assertEqual(repr(second), repr(want))
                self.assertEqual(repr(arguments), repr(kept))
                if name not in NONE_TOLD:
                    self.assertIsNotNone(want)
                if name.startswith(("is_", "are_")):
                    self.assertIsInstance(want, bool)

    def test_an_equal_answer_for_other_parts(self):
        for part in small_parts(231, 25) + [NARROW, KEPT, FULL]:
            for name, function, arguments in functions():
                if "part" in inspect.signature(function).parameters:
                    changed = [part] + arguments[1:]
                    first = answer(function, changed)
                    want = copy.deepcopy(first)
                    spoil(first)
                    self.assertEqual(answer(function, changed), want, name)

    def test_odd_arguments_raise_errors_of_the_package_only(self):
        for name, function, arguments in functions():
            for place in range(len(arguments)):
                for value in OTHER_VALUES:
                    changed = list(arguments)
                    changed[place] = value
                    self.check(name, function, changed)
            for value in ODD:
                self.check(name, function, [value] * len(arguments))

    def test_arguments_that_are_odd_inside(self):
        source = random.Random(232)
        for name, function, arguments in functions():
            for _ in range(150):
                changed = list(arguments)
                place = source.randrange(len(arguments))
                changed[place] = changed_inside(source, changed[place])
                self.check(name, function, changed)

    def check(self, name, function, arguments):
        """Check that a call returns, or raises an error of the package, and changes nothing."""
        kept = repr(arguments)
        with self.subTest(name, arguments=kept[:200]):
            try:
                found = function(*arguments)
            except CoverError as error:
                self.assertEqual(error.__class__.__bases__, (CoverError,))
                if name.startswith(("is_", "are_")):
                    self.assertIn(error.__class__, [InvalidPart, OTHER_ERRORS.get(name)])
            else:
                if name.startswith(("is_", "are_")):
                    self.assertIsInstance(found, bool)
            self.assertEqual(repr(arguments), kept)

    def test_odd_arguments_of_the_classes(self):
        for values in [(value,) for value in OTHER_VALUES]:
            workshop, depot = Workshop(PUMP), Depot()
            depot.add("pump", PUMP)
            depot.save("one")
            for place, names in [
                (workshop, ["fault", "buy"]),
                (depot, ["remove", "state", "bill", "day", "save", "load", "dearer"]),
            ]:
                for name in names:
                    self.check(name, getattr(place.copy(), name), list(values))
            for other in OTHER_VALUES:
                self.check("ask", workshop.copy().ask, [other, *values])
                self.check("add", depot.copy().add, [other, *values])
        source = random.Random(233)
        for _ in range(500):
            faults = changed_inside(source, (("bare", "b"), ("pump", "b")))
            depot = Depot()
            depot.add("pump", PUMP)
            depot.add("bare", BARE)
            self.check("day", depot.day, [faults])


class Promises(unittest.TestCase):
    """0.2 (a) to (d), over small parts."""

    def test_kept_from_paying_for_ever_or_for_a_greatest_number_of_days(self):
        counts = [0, 0]
        for part in small_parts(241, 200):
            found, days = free_round(part), longest_free(part)
            self.assertIs(found is None, days is not None)
            counts[found is None] += 1
            if found is not None:
                begin, loop = found
                self.assertIs(is_free_round(part, found), True)
                for many in range(20):
                    self.assertEqual(follow(part, beginning(part), begin + loop * many)[1], 0)
            elif days < 6:
                free = [
                    [course for course, paid, state, payers in level if paid == 0]
                    for level in walks(part, days + 1)
                ]
                self.assertNotEqual(free[days], [])
                self.assertEqual(free[days + 1], [])
        self.assertGreater(min(counts), 20)

    def test_never_dearer_or_a_course_that_shows_otherwise(self):
        counts = [0, 0]
        for one, other in pairs_of(242, 200):
            course = parting_course(one, other)
            self.assertIs(never_dearer(one, other), course is None)
            counts[course is None] += 1
            if course is None:
                self.assertIsNone(naive_parting(one, other, 4))
                self.assertEqual(greatest_difference(one, other), 0)
            else:
                self.assertIs(is_course(one, course) and is_course(other, course), True)
                self.assertGreater(cost(one, course), cost(other, course))
        self.assertGreater(min(counts), 20)

    def test_the_best_choice_against_any_faults(self):
        source = random.Random(243)
        for part in small_parts(244, 100):
            for many in (2, 5, 11):
                told = sure_cost(part, many)
                self.assertLessEqual(told, greatest_cost(part, many))
                self.assertEqual(price_of_order(part, many), greatest_cost(part, many) - told)
                state, paid = beginning(part), 0
                for days_left in range(many, 0, -1):
                    event = source.choice(events(part, state))
                    number = None
                    if event != "":
                        number = best_choice(part, state, event, days_left)
                    found = {row[0]: row[1:] for row in choices_from(part, state)[event]}
                    more, state = found[number]
                    paid += more
                self.assertLessEqual(paid, told)
                if many <= 5:
                    self.assertEqual(naive_sure(part, many), told)

    def test_terms_that_do_not_matter(self):
        source = random.Random(245)
        found = 0
        for part in small_parts(246, 150):
            lesser = []
            for payer in idle_terms(part):
                lesser.append(tuple(term for term in part[3] if term[0] != payer))
            for number, kind in idle_kinds(part):
                term = part[3][number]
                term = term[:2] + (term[2].replace(kind, ""),) + term[3:]
                lesser.append(part[3][:number] + (term,) + part[3][number + 1:])
            for terms in lesser:
                other = with_terms(part, terms)
                self.assertIs(as_dear(part, other), True)
                for course in all_courses(part, 3):
                    self.assertEqual(cost(part, course), cost(other, course))
                for _ in range(5):
                    state, course = beginning(part), ()
                    while len(course) < 60:
                        event = source.choice(events(part, state))
                        course += (event,)
                        state = follow(part, state, (event,))[0]
                    self.assertEqual(cost(part, course), cost(other, course))
                found += 1
        self.assertGreater(found, 50)
