"""Records: 17.1 to 17.4."""

import itertools
import random
import unittest

from coverterms.audits import best_record, bill, fewest_changes, first_off, first_wrong
from coverterms.audits import is_allowed, is_record, least_bill, lost, mended, record_of
from coverterms.choosing import sure_cost
from coverterms.courses import cost, payments
from coverterms.errors import InvalidCourse, InvalidPart, InvalidRecord, NotAllowed, TooLarge
from tests.model import Model
from tests.samples import BARE, CHOOSE, CHOOSE_OVER, DEEP, DEEP_LIST, HUGE, KEPT, NARROW, ODD
from tests.samples import OVER, PUMP, WIDE, random_parts, small_parts
from tests.slow import beginning, choice_closure, choices_from, walks
from tests.wrong import BAD_COURSES, BAD_PARTS, at, check_error, check_errors

# None of these is a record of PUMP.
BAD_RECORDS = [value for value in ODD if value != ()] + [
    [("b", "")], (["b", ""],), (("b",),), (("b", "", ""),), ("b", ""), ("", ""), (("", "maker"),),
    (("", "seller"),), (("b", "other"),), (("b", "Maker"),), (("b", "maker "),), (("b", None),),
    (("b", True),), (("b", False),), (("b", 0),), (("b", 1),), (("b", ()),), (("b", []),),
    (("b", ("maker",)),), (("b", ["maker"]),), (("", None),), (("", ()),), (("", False),),
    (("", 0),), ((None, ""),), ((True, ""),), ((("b",), ""),), ((["b"], ""),), ((0, ""),),
    (("a", ""),), (("c", ""),), (("d", "maker"),), (("bb", ""),), ((".", ""),), (("maker", "b"),),
    (("", ""),) * 4, (("b", "maker"), ("c", "")), (("b", "maker"), None), (("b", "maker"), "b"),
    (("b", "maker"), ()), (("b", "maker"), ["b", ""]), (("b", ""),) * 61, (("b", "maker"),) * 61,
    ("b",), ("", "b"), (("b", "maker"), ("", ""), ("a", "b")), (DEEP, ""), (("b", DEEP),),
    ((DEEP, "maker"),), (("b", DEEP_LIST),), ((DEEP_LIST, ""),), (DEEP,), (DEEP_LIST,),
]
# A part with three terms, of which two have claims that are limited.
THREE = (6, (("a", 0), ("b", 1)), 4, (
    ("zed", 4, "ab", "rest", 1, False), ("ann", 6, "ab", "anew", 2, False),
    ("bob", 3, "b", "rest", 0, True)))
# Asking the first payer early leaves the later faults to the owner.
SECOND = (7, (("a", 0), ("b", 0)), 0, (
    ("x", 6, "ab", "rest", 1, False), ("y", 6, "a", "rest", 1, False)))
SAMPLES = [PUMP, BARE, NARROW, KEPT, THREE, SECOND]


def random_course(source, part, many):
    """Return some course with so many days."""
    model, course = Model(part), ()
    for _ in range(many):
        event = source.choice(model.events())
        course += (event,)
        model.day(event)
    return course


def random_record(source, part, course, good):
    """Return some record of a course; with good, most of its payers can be asked."""
    model, record = Model(part), ()
    for event in course:
        number = None
        if event != "":
            numbers = list(range(len(part[3])))
            if source.random() < good:
                numbers = model.asked(event)
            number = source.choice(numbers + [None])
            if number in model.asked(event) + [None]:
                model.pay(number)
        model.end()
        record += ((event, "" if number is None else part[3][number][0]),)
    return record


def wrong_day(part, record):
    """Return the first day on which the payer can't be asked, by the model."""
    model = Model(part)
    names = [term[0] for term in part[3]]
    for day, (event, payer) in enumerate(record):
        if event != "":
            if payer == "":
                model.pay(None)
            elif names.index(payer) in model.asked(event):
                model.pay(names.index(payer))
            else:
                return day
        model.end()
    return None


def off_day(part, record):
    """Return the first day on which the payer is not the one by the order, by the model."""
    model = Model(part)
    for day, (event, payer) in enumerate(record):
        if (model.day(event) or "") != payer:
            return day
    return None


def allowed_records(part, course):
    """Return all allowed records with the events of a course, by trying all payers."""
    names = [""] + [term[0] for term in part[3]]
    choices = [names if event != "" else [""] for event in course]
    records = [tuple(zip(course, payers)) for payers in itertools.product(*choices)]
    return [record for record in records if wrong_day(part, record) is None]


def owner_pays(part, record):
    return sum(part[0] for event, payer in record if event != "" and payer == "")


def changes(record, other):
    return sum(entry != another for entry, another in zip(record, other))


def least_forward(part, course, weigh):
    """Return the least sum of weights and the first such record, from the first day on."""
    level = {beginning(part): (0, ())}
    for day, event in enumerate(course):
        following = {}
        for state, (total, record) in level.items():
            for number, paid, after in choices_from(part, state)[event]:
                payer = "" if number is None else part[3][number][0]
                found = (total + weigh(day, payer, paid), record + ((event, payer),))
                following[after] = min(found, following.get(after, found))
        level = following
    return min(level.values())


def check_large(case, function, other, wrong, error):
    """Check at which number of states TooLarge is raised, and that an error comes before it."""
    function(CHOOSE, ())
    for part in (CHOOSE_OVER, HUGE):
        check_error(case, function, [part, ()], TooLarge)
        check_error(case, function, [part, other], TooLarge)
    check_error(case, function, [CHOOSE_OVER, wrong], error)


class IsRecord(unittest.TestCase):
    def test_ordinary(self):
        for record in [
            (), (("", ""),), (("b", ""),), (("b", "maker"),), (("b", "seller"),),
            (("", ""), ("", ""), ("a", "seller"), ("b", "")), (("b", "seller"),) * 60,
            (("b", ""),) * 60, (("", ""), ("b", "maker")) * 30, (("b", "maker"),) * 59,
        ]:
            self.assertIs(is_record(PUMP, record), True)
        self.assertIs(is_record(BARE, (("b", ""),)), True)
        self.assertIs(is_record(BARE, (("b", "maker"),)), False)
        self.assertIs(is_record(NARROW, (("", ""),) * 60), True)
        self.assertIs(is_record(NARROW, (("", ""),) * 61), False)
        self.assertIs(is_record(THREE, (("a", "bob"), ("a", "ann"), ("b", "zed"))), True)

    def test_the_events_are_a_course(self):
        for part in small_parts(171, 40):
            names = [""] + [term[0] for term in part[3]]
            courses = {course for course, *_ in walks(part, 3)[3]}
            for course in itertools.product(["", "a", "b", "c"], repeat=3):
                for payer in names + ["other"]:
                    record = tuple((event, "" if event == "" else payer) for event in course)
                    known = payer in names or course == ("", "", "")
                    self.assertIs(is_record(part, record), course in courses and known)
                    if payer != "" and "" in course:
                        self.assertIs(is_record(part, tuple((e, payer) for e in course)), False)

    def test_wrong_candidates(self):
        for candidate in BAD_RECORDS:
            with self.subTest(repr(candidate)[:80]):
                self.assertIs(is_record(PUMP, candidate), False)

    def test_wrong_parts(self):
        for part in BAD_PARTS:
            for candidate in [(), (("b", ""),), None, DEEP_LIST]:
                check_error(self, is_record, [part, candidate], InvalidPart)


class RecordOf(unittest.TestCase):
    def test_example(self):
        self.assertEqual(
            record_of(PUMP, ("", "", "a", "b")),
            (("", ""), ("", ""), ("a", "seller"), ("b", "")))

    def test_ordinary(self):
        self.assertEqual(record_of(PUMP, ()), ())
        self.assertEqual(record_of(BARE, ("b", "", "a")), (("b", ""), ("", ""), ("a", "")))
        self.assertEqual(record_of(KEPT, ("a",) * 60), (("a", "maker"),) * 60)
        self.assertEqual(record_of(NARROW, ("",) * 60), (("", ""),) * 60)

    def test_against_walks_and_payments(self):
        for part in small_parts(172, 40) + random_parts(173, 20):
            for course, paid, state, payers in walks(part, 4)[4]:
                want = tuple((event, payer or "") for event, payer in zip(course, payers))
                record = record_of(part, course)
                self.assertEqual(record, want)
                self.assertEqual(payments(part, course), [
                    (day, *entry) for day, entry in enumerate(record) if entry[0] != ""])
                self.assertIs(is_record(part, record), True)
                self.assertIs(is_allowed(part, record), True)
                self.assertIsNone(first_off(part, record))
                self.assertEqual(bill(part, record), paid)

    def test_exceptions_in_order(self):
        for course in ((), ("b",) * 60):
            check_errors(self, record_of, (PUMP, course), [
                (InvalidPart, at(0, BAD_PARTS)), (InvalidCourse, at(1, BAD_COURSES))])


class AllowedAndBill(unittest.TestCase):
    def test_ordinary(self):
        for record, wrong, paid in [
            ((), None, 0), ((("b", "maker"),), None, 0), ((("b", "seller"),), 0, 0),
            ((("b", ""),), None, 5), ((("b", ""),) * 60, None, 300),
            ((("", ""), ("a", "seller"), ("a", "seller")), 2, 0),
            ((("", ""), ("a", "seller"), ("a", "")), None, 5),
            ((("", ""), ("", ""), ("b", "maker")), 2, 0),
            ((("", ""), ("b", "maker"), ("b", "maker"), ("b", "")), 2, 5),
        ]:
            self.assertIs(is_allowed(PUMP, record), wrong is None)
            self.assertEqual(first_wrong(PUMP, record), wrong)
            self.assertEqual(bill(PUMP, record), paid)
        self.assertEqual(bill(NARROW, (("", ""),) * 60), 0)
        self.assertEqual(bill((20,) + BARE[1:], (("b", ""),) * 60), 1200)

    def test_the_states_follow_from_who_has_paid(self):
        # The seller stands in anew because the owner buys, though the maker could be asked.
        record = (("b", ""), ("a", "seller"), ("a", ""), ("a", "seller"))
        self.assertIs(is_allowed(PUMP, record), True)
        self.assertEqual(first_wrong(PUMP, (("b", "maker"), ("a", "seller"), ("a", "seller"))), 2)

    def test_wrong_on_the_first_a_middle_and_the_last_day(self):
        fine = (("b", ""),) * 60
        for day in (0, 1, 29, 58, 59):
            record = fine[:day] + (("b", "seller"),) + fine[day + 1:]
            self.assertEqual(first_wrong(PUMP, record), day)
            self.assertIs(is_allowed(PUMP, record), False)
            # From then on another day may be wrong, too.
            record = record[:day + 1] + (("b", "seller"),) * (59 - day)
            self.assertEqual(first_wrong(PUMP, record), day)
        self.assertIsNone(first_wrong(PUMP, fine))
        # The maker has two days left on the first day only.
        for many in (59, 60):
            self.assertEqual(first_wrong(PUMP, (("b", "maker"),) * many), 2)

    def test_against_the_model(self):
        source = random.Random(174)
        counts = {}
        for part in small_parts(175, 100) + random_parts(176, 60) + SAMPLES + [OVER, HUGE]:
            for many in (1, 5, 20, 60):
                for good in (0, 0.9, 1):
                    course = random_course(source, part, many)
                    record = random_record(source, part, course, good)
                    want = wrong_day(part, record)
                    self.assertIs(is_record(part, record), True)
                    self.assertEqual(first_wrong(part, record), want)
                    self.assertIs(is_allowed(part, record), want is None)
                    self.assertEqual(bill(part, record), owner_pays(part, record))
                    self.assertEqual(first_off(part, record), off_day(part, record))
                    counts[want is None] = counts.get(want is None, 0) + 1
        self.assertGreater(min(counts.values()), 100)

    def test_exceptions_in_order(self):
        for function in (is_allowed, bill, first_wrong, first_off):
            for record in [(), (("b", "maker"),), (("b", "seller"),) * 60]:
                check_errors(self, function, (PUMP, record), [
                    (InvalidPart, at(0, BAD_PARTS)), (InvalidRecord, at(1, BAD_RECORDS))])


class FirstOff(unittest.TestCase):
    def test_example(self):
        self.assertEqual(first_off(PUMP, (("b", ""),)), 0)

    def test_ordinary(self):
        for record, want in [
            ((), None), ((("b", "maker"),), None), ((("b", "seller"),), 0),
            ((("", ""), ("a", "seller")), 1), ((("", ""), ("a", "maker"), ("b", "")), None),
            ((("b", "maker"), ("b", "maker"), ("b", "maker")), 2),
            ((("b", "maker"), ("b", ""), ("b", "")), 1),
        ]:
            self.assertEqual(first_off(PUMP, record), want)

    def test_first_middle_and_last_day(self):
        usual = record_of(KEPT, ("a",) * 60)
        for day in (0, 1, 29, 58, 59):
            record = usual[:day] + (("a", ""),) + usual[day + 1:]
            self.assertEqual(first_off(KEPT, record), day)
            self.assertIsNone(first_wrong(KEPT, record))
        self.assertIsNone(first_off(KEPT, usual))

    def test_a_wrong_payer_is_not_by_the_order(self):
        source = random.Random(177)
        for part in small_parts(178, 80):
            record = random_record(source, part, random_course(source, part, 12), 0.7)
            wrong = first_wrong(part, record)
            if wrong is not None:
                self.assertLessEqual(first_off(part, record), wrong)


class Mended(unittest.TestCase):
    def test_example(self):
        self.assertEqual(mended(PUMP, (("b", "seller"),)), (("b", ""),))

    def test_ordinary(self):
        self.assertEqual(fewest_changes(PUMP, (("b", "seller"),)), 1)
        self.assertEqual(fewest_changes(PUMP, ()), 0)
        self.assertEqual(mended(PUMP, ()), ())
        record = (("b", "maker"),) * 60
        self.assertEqual(fewest_changes(PUMP, record), 58)
        self.assertEqual(mended(PUMP, record), record[:2] + (("b", ""),) * 58)

    def test_an_allowed_record_stays(self):
        source = random.Random(179)
        for part in small_parts(180, 60) + SAMPLES:
            for many in (3, 60):
                course = random_course(source, part, many)
                record = random_record(source, part, course, 1)
                self.assertEqual(fewest_changes(part, record), 0)
                self.assertEqual(mended(part, record), record)

    def test_the_first_one_by_name_not_by_number(self):
        # Each other payer would do; the owner comes first, then "ann", though it has number 1.
        self.assertEqual(mended(THREE, (("a", "bob"),)), (("a", ""),))
        # It is better to change the first day than the two that it makes wrong.
        part = (5, (("a", 0),), 0, (
            ("x", 6, "a", "rest", 2, False), ("y", 1, "a", "rest", 1, False)))
        record = (("a", "x"), ("a", "x"), ("a", "x"))
        self.assertEqual(fewest_changes(part, record), 1)
        self.assertEqual(mended(part, record), (("a", ""), ("a", "x"), ("a", "x")))

    def test_an_earlier_change_may_be_better(self):
        # Each time that the owner buys, the payer stands in for one fault more.
        part = (5, (("a", 0),), 0, (("x", 6, "a", "rest", 1, True),))
        record = (("a", "x"),) * 4
        self.assertEqual(fewest_changes(part, record), 2)
        self.assertEqual(mended(part, record), (("a", ""), ("a", "x")) * 2)
        record = (("a", "x"),) * 5
        self.assertEqual(fewest_changes(part, record), 2)
        self.assertEqual(mended(part, record), (("a", "x"), ("a", "")) * 2 + (("a", "x"),))

    def test_against_all_allowed_records(self):
        source = random.Random(181)
        several = 0
        for part in small_parts(182, 150) + random_parts(183, 40) + SAMPLES:
            if len(choice_closure(part, beginning(part))) > 400:
                continue
            for many in (1, 2, 4, 5):
                course = random_course(source, part, many)
                record = random_record(source, part, course, source.choice([0, 0.6]))
                found = allowed_records(part, course)
                least = min(changes(record, other) for other in found)
                best = [other for other in found if changes(record, other) == least]
                self.assertEqual(fewest_changes(part, record), least)
                self.assertEqual(mended(part, record), min(best))
                several += len(best) > 1
        self.assertGreater(several, 30)

    def test_sixty_days_against_the_slow_way(self):
        source = random.Random(184)
        for part in small_parts(185, 40) + SAMPLES + [CHOOSE]:
            course = random_course(source, part, 60)
            record = random_record(source, part, course, 0.5)
            least, first = least_forward(
                part, course, lambda day, payer, paid: payer != record[day][1])
            self.assertEqual(fewest_changes(part, record), least)
            self.assertEqual(mended(part, record), first)
            self.assertIs(is_allowed(part, first), True)

    def test_exceptions_in_order(self):
        for function in (fewest_changes, mended):
            for record in [(), (("b", "maker"),), (("b", "seller"),) * 60]:
                check_errors(self, function, (PUMP, record), [
                    (InvalidPart, at(0, BAD_PARTS)), (InvalidRecord, at(1, BAD_RECORDS))])
            check_large(self, function, (("", ""),), (("a", "none"),), InvalidRecord)


class LeastBill(unittest.TestCase):
    def test_ordinary(self):
        self.assertEqual(least_bill(PUMP, ()), 0)
        self.assertEqual(best_record(PUMP, ()), ())
        self.assertEqual(least_bill(PUMP, ("b",)), 0)
        self.assertEqual(best_record(PUMP, ("b",)), (("b", "maker"),))
        self.assertEqual(least_bill(BARE, ("b",) * 60), 300)
        self.assertEqual(best_record(BARE, ("b",) * 60), (("b", ""),) * 60)
        self.assertEqual(least_bill(NARROW, ("",) * 60), 0)
        self.assertEqual(best_record(NARROW, ("",) * 60), (("", ""),) * 60)

    def test_another_payer_than_by_the_order(self):
        self.assertEqual(cost(SECOND, ("a", "b")), 7)
        self.assertEqual(least_bill(SECOND, ("a", "b")), 0)
        self.assertEqual(best_record(SECOND, ("a", "b")), (("a", "y"), ("b", "x")))

    def test_the_first_by_name(self):
        terms = tuple((payer, 6, "a", "anew", 0, False) for payer in ("zed", "bob", "ann"))
        part = (5, (("a", 0),), 0, terms)
        self.assertEqual(best_record(part, ("a", "", "a")), (("a", "ann"), ("", ""), ("a", "ann")))
        # The owner comes first of all, if one purchase can not be avoided.
        part = (5, (("a", 0),), 0, (("x", 6, "a", "rest", 2, False),))
        self.assertEqual(best_record(part, ("a",) * 3), (("a", ""), ("a", "x"), ("a", "x")))

    def test_against_all_allowed_records(self):
        source = random.Random(186)
        several = 0
        for part in small_parts(187, 150) + random_parts(188, 40) + SAMPLES:
            if len(choice_closure(part, beginning(part))) > 400:
                continue
            for many in (1, 2, 4, 5):
                course = random_course(source, part, many)
                found = allowed_records(part, course)
                least = min(owner_pays(part, record) for record in found)
                best = [record for record in found if owner_pays(part, record) == least]
                self.assertEqual(least_bill(part, course), least)
                self.assertEqual(best_record(part, course), min(best))
                self.assertLessEqual(least, sure_cost(part, many))
                several += len(best) > 1
                for record in found:
                    self.assertEqual(lost(part, record), owner_pays(part, record) - least)
        self.assertGreater(several, 30)

    def test_sixty_days_against_the_slow_way(self):
        source = random.Random(189)
        better = 0
        for part in small_parts(190, 60) + random_parts(193, 60) + SAMPLES + [CHOOSE, WIDE]:
            if len(choice_closure(part, beginning(part))) > 400:
                continue
            course = random_course(source, part, 60)
            least, first = least_forward(part, course, lambda day, payer, paid: paid)
            self.assertEqual(least_bill(part, course), least)
            self.assertEqual(best_record(part, course), first)
            self.assertEqual(bill(part, first), least)
            self.assertIs(is_allowed(part, first), True)
            self.assertLessEqual(least, cost(part, course))
            better += least < cost(part, course)
        self.assertGreater(better, 3)

    def test_exceptions_in_order(self):
        for function in (least_bill, best_record):
            for course in [(), ("b",), ("b",) * 60]:
                check_errors(self, function, (PUMP, course), [
                    (InvalidPart, at(0, BAD_PARTS)), (InvalidCourse, at(1, BAD_COURSES))])
            check_large(self, function, ("",), ("c",), InvalidCourse)


class Lost(unittest.TestCase):
    def test_example(self):
        self.assertEqual(lost(PUMP, (("b", ""),)), 5)

    def test_ordinary(self):
        self.assertEqual(lost(PUMP, ()), 0)
        self.assertEqual(lost(PUMP, (("b", "maker"),)), 0)
        self.assertEqual(lost(SECOND, (("a", "x"), ("b", ""))), 7)
        self.assertEqual(lost(SECOND, (("a", "y"), ("b", "x"))), 0)
        self.assertEqual(lost(KEPT, (("a", ""),) * 60), 420)
        self.assertEqual(lost(BARE, (("b", ""),) * 60), 0)

    def test_the_best_record_loses_nothing(self):
        source = random.Random(191)
        for part in small_parts(192, 60):
            course = random_course(source, part, 30)
            self.assertEqual(lost(part, best_record(part, course)), 0)
            want = cost(part, course) - least_bill(part, course)
            self.assertEqual(lost(part, record_of(part, course)), want)

    def test_exceptions_in_order(self):
        wrong = [(("b", "seller"),), (("b", "maker"),) * 3, (("b", ""),) * 59 + (("b", "maker"),)]
        for record in [(), (("b", "maker"),), (("b", ""),) * 60]:
            check_errors(self, lost, (PUMP, record), [
                (InvalidPart, at(0, BAD_PARTS)), (InvalidRecord, at(1, BAD_RECORDS)),
                (NotAllowed, at(1, wrong))])
        check_large(self, lost, (("a", "x"),), (("a", "z"),), NotAllowed)
        check_large(self, lost, (("", ""),), (("a", "none"),), InvalidRecord)
