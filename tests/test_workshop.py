"""A workshop: 18.1 and 18.2."""

import random
import unittest

from coverterms.audits import bill, is_record, record_of
from coverterms.courses import cost
from coverterms.days import asked, events, new_state
from coverterms.errors import CoverError, InvalidEvent, InvalidNumber, InvalidPart, NothingToUndo
from coverterms.errors import Refused, TooLong
from coverterms.workshop import Workshop
from tests.model import Model
from tests.samples import BARE, CHOOSE_OVER, DEEP_LIST, HUGE, KEPT, NARROW, PUMP, WIDE
from tests.samples import random_parts, small_parts
from tests.wrong import BAD_KINDS, BAD_PARTS, bad_numbers

BAD_FAULTS = BAD_KINDS + [None, ("b",), ["b"], DEEP_LIST]


def told(workshop):
    """Return all that a workshop tells, and what undoing and redoing all days leads to."""
    found = [workshop.state(), workshop.events(), workshop.record(), workshop.bill(), len(workshop)]
    for name in ("undo", "redo"):
        other = workshop.copy()
        while True:
            try:
                getattr(other, name)()
            except NothingToUndo:
                break
            found.append((other.record(), other.state(), other.bill(), len(other)))
    return found


def with_days(part, days):
    """Return a workshop after days (event, number), None as the number for the owner."""
    workshop = Workshop(part)
    for event, number in days:
        if event == "":
            workshop.quiet()
        elif number is None:
            workshop.buy(event)
        else:
            workshop.ask(event, number)
    return workshop


class Checked(unittest.TestCase):
    def assert_refused(self, workshop, name, arguments, error):
        """Check that a call raises just this error and changes nothing."""
        before = told(workshop)
        with self.subTest(name, arguments=repr(arguments)[:80]):
            with self.assertRaises(error) as caught:
                getattr(workshop, name)(*arguments)
            self.assertIs(caught.exception.__class__, error)
            self.assertEqual(told(workshop), before)


class Beginning(Checked):
    def test_new(self):
        for part in [PUMP, BARE, NARROW, WIDE, HUGE, CHOOSE_OVER] + random_parts(201, 30):
            workshop = Workshop(part)
            self.assertEqual(workshop.state(), new_state(part))
            self.assertEqual(workshop.events(), events(part, new_state(part)))
            self.assertEqual(workshop.record(), ())
            self.assertEqual(workshop.bill(), 0)
            self.assertEqual(len(workshop), 0)

    def test_wrong_parts(self):
        for part in BAD_PARTS:
            with self.subTest(repr(part)[:80]), self.assertRaises(InvalidPart):
                Workshop(part)


class Days(Checked):
    def test_example(self):
        workshop = Workshop(PUMP)
        workshop.buy("b")
        self.assertEqual(workshop.bill(), 5)
        self.assertEqual(workshop.fault("b"), "maker")

    def test_quiet(self):
        workshop = Workshop(PUMP)
        self.assertIsNone(workshop.quiet())
        self.assertEqual(workshop.state(), (1, ((1, -1), (2, 1))))
        self.assertEqual(workshop.events(), ["", "a", "b"])
        self.assertEqual(workshop.record(), (("", ""),))
        workshop.quiet()
        workshop.quiet()
        self.assertEqual(workshop.events(), ["a", "b"])
        self.assert_refused(workshop, "quiet", (), InvalidEvent)

    def test_fault(self):
        workshop = Workshop(PUMP)
        self.assertEqual(workshop.fault("b"), "maker")
        self.assertEqual(workshop.fault("b"), "maker")
        self.assertEqual(workshop.fault("a"), "seller")
        self.assertEqual(workshop.fault("a"), "")
        self.assertEqual(workshop.state(), (1, ((0, -1), (2, 1))))
        self.assertEqual(workshop.fault("b"), "")
        self.assertEqual(workshop.bill(), 10)
        self.assertEqual(workshop.record(), (
            ("b", "maker"), ("b", "maker"), ("a", "seller"), ("a", ""), ("b", "")))

    def test_ask(self):
        workshop = Workshop(PUMP)
        workshop.quiet()
        self.assertEqual(workshop.ask("a", 1), "seller")
        self.assertEqual(workshop.state(), (1, ((0, -1), (2, 0))))
        self.assertEqual(workshop.bill(), 0)
        other = Workshop(PUMP)
        self.assertEqual(other.ask("b", 0), "maker")
        self.assertEqual(other.state(), (1, ((1, -1), (2, 1))))

    def test_buy(self):
        workshop = Workshop(PUMP)
        self.assertIsNone(workshop.buy("b"))
        self.assertEqual(workshop.state(), (1, ((1, -1), (2, 1))))
        self.assertEqual(workshop.record(), (("b", ""),))
        self.assertIsNone(workshop.buy("a"))
        self.assertEqual(workshop.state(), (1, ((0, -1), (2, 1))))
        self.assertEqual(workshop.bill(), 10)
        self.assertEqual(len(workshop), 2)

    def test_no_terms(self):
        workshop = Workshop(BARE)
        self.assertEqual(workshop.fault("b"), "")
        self.assertIsNone(workshop.buy("a"))
        for number in (0, -1, 1, None):
            self.assert_refused(workshop, "ask", ("a", number), InvalidNumber)
        self.assertEqual(workshop.bill(), 10)

    def test_three_terms(self):
        workshop = Workshop(WIDE)
        for _ in range(5):
            workshop.quiet()
        self.assert_refused(workshop, "ask", ("a", 1), InvalidEvent)
        workshop = Workshop((20, (("a", 0),)) + WIDE[2:])
        self.assertEqual(
            [workshop.ask("a", number) for number in (1, 0, 1, 0)], ["b", "zzzzzz", "b", "zzzzzz"])
        for number in (0, 1, 2):
            self.assert_refused(workshop, "ask", ("a", number), Refused)
        self.assertEqual(workshop.fault("a"), "")
        self.assertEqual(workshop.ask("a", 0), "zzzzzz")
        self.assert_refused(workshop, "ask", ("a", 3), InvalidNumber)

    def test_the_fault_may_be_asked_of_another_one_than_by_the_order(self):
        part = (7, (("a", 0), ("b", 0)), 0, (
            ("x", 6, "ab", "rest", 1, False), ("y", 6, "a", "rest", 1, False)))
        workshop = Workshop(part)
        self.assertEqual(workshop.ask("a", 1), "y")
        self.assertEqual(workshop.fault("b"), "x")
        self.assertEqual(workshop.bill(), 0)
        self.assertEqual(cost(part, ("a", "b")), 7)

    def test_by_the_order_it_is_the_record_of_the_course(self):
        source = random.Random(202)
        for part in random_parts(203, 40) + small_parts(204, 40):
            workshop, course = Workshop(part), ()
            for _ in range(60):
                event = source.choice(workshop.events())
                course += (event,)
                if event == "":
                    workshop.quiet()
                else:
                    workshop.fault(event)
            self.assertEqual(workshop.record(), record_of(part, course))
            self.assertEqual(workshop.bill(), cost(part, course))

    def test_what_is_returned_may_be_changed(self):
        workshop = Workshop(PUMP)
        workshop.buy("b")
        before = told(workshop)
        workshop.events().clear()
        workshop.events().append("x")
        self.assertEqual(told(workshop), before)
        self.assertIsInstance(workshop.record(), tuple)
        self.assertIsInstance(workshop.state(), tuple)


class Wrong(Checked):
    def some_workshops(self):
        """Return workshops without days, with days, and with undone days."""
        undone = with_days(PUMP, [("", None), ("a", 1), ("b", None)])
        undone.undo()
        undone.undo()
        return [Workshop(PUMP), with_days(PUMP, [("b", 0), ("", None), ("a", None)]), undone]

    def test_kinds(self):
        for workshop in self.some_workshops():
            for kind in BAD_FAULTS + ["c"]:
                if kind not in ("a", "b"):
                    self.assert_refused(workshop, "fault", (kind,), InvalidEvent)
                    self.assert_refused(workshop, "buy", (kind,), InvalidEvent)
                    for number in [0, 1] + bad_numbers(0, 1):
                        self.assert_refused(workshop, "ask", (kind, number), InvalidEvent)

    def test_a_fault_that_is_not_possible(self):
        workshop = Workshop(PUMP)
        for name, arguments in [("fault", ("a",)), ("buy", ("a",)), ("ask", ("a", 0)),
                                ("ask", ("a", 2)), ("ask", ("a", True))]:
            self.assert_refused(workshop, name, arguments, InvalidEvent)

    def test_no_kind_where_no_fault_may_come(self):
        workshop = Workshop((5, (("a", 3),), 3, ()))
        for name, arguments in [("fault", ("",)), ("buy", ("",)), ("ask", ("", 0))]:
            self.assert_refused(workshop, name, arguments, InvalidEvent)
        for _ in range(3):
            workshop.quiet()
        for name, arguments in [("fault", ("",)), ("buy", ("",)), ("ask", ("", 0)), ("quiet", ())]:
            self.assert_refused(workshop, name, arguments, InvalidEvent)

    def test_numbers(self):
        for workshop in self.some_workshops():
            for number in bad_numbers(0, 1):
                self.assert_refused(workshop, "ask", ("b", number), InvalidNumber)

    def test_refused(self):
        workshop = Workshop(PUMP)
        self.assert_refused(workshop, "ask", ("b", 1), Refused)
        workshop.quiet()
        workshop.ask("a", 1)
        self.assert_refused(workshop, "ask", ("a", 1), Refused)
        self.assert_refused(workshop, "ask", ("a", 0), Refused)
        workshop.buy("a")
        self.assertEqual(workshop.ask("a", 1), "seller")

    def test_59_60_and_61_days(self):
        for part, event in [(NARROW, ""), (PUMP, "b"), (KEPT, "a")]:
            number = 0 if part == KEPT else None
            workshop = with_days(part, [(event, number)] * 59)
            self.assertEqual(len(workshop), 59)
            workshop = with_days(part, [(event, number)] * 60)
            self.assertEqual(len(workshop), 60)
            self.assertIs(is_record(part, workshop.record()), True)
            # TooLong comes before all other errors.
            for name, arguments in [
                ("quiet", ()), ("fault", ("a",)), ("fault", ("b",)), ("fault", ("",)),
                ("fault", (None,)), ("buy", ("b",)), ("buy", ([],)), ("ask", ("b", 0)),
                ("ask", ("a", 1)), ("ask", ("", None)), ("ask", ("b", True)), ("ask", (None, 5)),
            ]:
                self.assert_refused(workshop, name, arguments, TooLong)
            workshop.undo()
            self.assert_refused(workshop, "fault", (None,), InvalidEvent)
            workshop.redo()
            self.assert_refused(workshop, "redo", (), NothingToUndo)
            self.assertEqual(len(workshop), 60)
            workshop.undo()
            if event == "":
                workshop.quiet()
            else:
                workshop.buy(event)
            self.assert_refused(workshop, "quiet", (), TooLong)


class UndoAndRedo(Checked):
    def test_ordinary(self):
        workshop = with_days(PUMP, [("b", None), ("a", 1), ("", None)])
        seen = [(workshop.state(), workshop.record(), workshop.bill())]
        for many in (2, 1, 0):
            self.assertIsNone(workshop.undo())
            self.assertEqual(len(workshop), many)
            seen.append((workshop.state(), workshop.record(), workshop.bill()))
        self.assertEqual(seen[-1], (new_state(PUMP), (), 0))
        self.assertEqual([entry[2] for entry in seen], [5, 5, 5, 0])
        self.assert_refused(workshop, "undo", (), NothingToUndo)
        for many in (1, 2, 3):
            self.assertIsNone(workshop.redo())
            self.assertEqual(len(workshop), many)
            seen.pop()
            self.assertEqual((workshop.state(), workshop.record(), workshop.bill()), seen[-1])
        self.assert_refused(workshop, "redo", (), NothingToUndo)

    def test_nothing_to_undo(self):
        for workshop in (Workshop(PUMP), Workshop(BARE)):
            self.assert_refused(workshop, "undo", (), NothingToUndo)
            self.assert_refused(workshop, "redo", (), NothingToUndo)

    def test_all_the_way_with_60_days(self):
        workshop = with_days(PUMP, [("b", None)] * 60)
        for many in range(59, -1, -1):
            workshop.undo()
            self.assertEqual((len(workshop), workshop.bill()), (many, 5 * many))
        self.assert_refused(workshop, "undo", (), NothingToUndo)
        for many in range(1, 61):
            workshop.redo()
            self.assertEqual((len(workshop), workshop.bill()), (many, 5 * many))
        self.assert_refused(workshop, "redo", (), NothingToUndo)

    def test_a_new_day_clears_what_can_be_redone(self):
        for name, arguments in [("quiet", ()), ("fault", ("b",)), ("ask", ("b", 0)),
                                ("buy", ("b",))]:
            workshop = with_days(PUMP, [("b", None), ("", None)])
            workshop.undo()
            workshop.undo()
            getattr(workshop, name)(*arguments)
            self.assert_refused(workshop, "redo", (), NothingToUndo)
            self.assertEqual(len(workshop), 1)
            workshop.undo()
            workshop.redo()
            self.assertEqual(len(workshop), 1)

    def test_a_call_that_raises_clears_nothing(self):
        workshop = with_days(PUMP, [("b", None), ("", None)])
        workshop.undo()
        for name, arguments, error in [
            ("fault", ("c",), InvalidEvent), ("buy", ("",), InvalidEvent),
            ("ask", ("b", 2), InvalidNumber), ("ask", ("b", 1), Refused),
        ]:
            self.assert_refused(workshop, name, arguments, error)
        workshop.redo()
        self.assertEqual(workshop.record(), (("b", ""), ("", "")))


class CopiesAndEquality(Checked):
    def test_copies_are_equal_and_independent(self):
        workshop = with_days(PUMP, [("b", None), ("a", 1), ("", None)])
        workshop.undo()
        other = workshop.copy()
        self.assertIsNot(other, workshop)
        self.assertIsInstance(other, Workshop)
        self.assertTrue(other == workshop)
        self.assertEqual(told(other), told(workshop))
        before = told(workshop)
        other.redo()
        self.assertFalse(other == workshop)
        self.assertEqual(told(workshop), before)
        other.undo()
        other.undo()
        other.buy("a")
        self.assertEqual(told(workshop), before)
        third = workshop.copy()
        before = told(third)
        workshop.redo()
        workshop.fault("b")
        self.assertEqual(told(third), before)

    def test_equal_by_part_and_record(self):
        one = with_days(PUMP, [("b", 0), ("", None)])
        other = Workshop(PUMP)
        self.assertTrue(one != other)
        other.fault("b")
        other.quiet()
        self.assertTrue(one == other)
        self.assertFalse(one != other)
        # What can be redone does not count.
        other.buy("b")
        other.undo()
        self.assertTrue(one == other)
        self.assertFalse(with_days(PUMP, [("b", None)]) == with_days(PUMP, [("b", 0)]))
        self.assertFalse(Workshop(PUMP) == Workshop(BARE))
        self.assertTrue(Workshop(PUMP) == Workshop(tuple(list(PUMP))))
        self.assertFalse(with_days(PUMP, [("b", None)]) == with_days(BARE, [("b", None)]))

    def test_not_equal_to_any_other_object(self):
        workshop = Workshop(PUMP)
        for other in [None, True, False, 0, 1, "", "a", (), [], {}, PUMP, (PUMP, ()), [PUMP],
                      workshop.state(), workshop.record(), object(), Workshop, DEEP_LIST]:
            self.assertFalse(workshop == other)
            self.assertFalse(other == workshop)
            self.assertTrue(workshop != other)

    def test_equality_and_len_change_nothing(self):
        workshop = with_days(PUMP, [("b", 0), ("", None)])
        before = told(workshop)
        self.assertTrue(workshop == workshop.copy())
        self.assertEqual(len(workshop), 2)
        self.assertEqual(told(workshop), before)


class AgainstTheModel(Checked):
    def expect(self, model_days, part):
        """Return the state, events, record and bill after days (event, number), by the model."""
        model, record = Model(part), ()
        for event, number in model_days:
            payer = "" if event == "" else model.pay(number)
            model.end()
            record += ((event, payer),)
        return (model.state(), model.events(), record, bill(part, record), len(record))

    def test_any_calls(self):
        source = random.Random(205)
        counts = {}
        for part in random_parts(206, 30) + small_parts(207, 40) + [PUMP, BARE, WIDE, KEPT]:
            workshop, days, undone = Workshop(part), [], []
            for _ in range(90):
                name = source.choice(["quiet", "fault", "ask", "ask", "ask", "buy", "undo", "redo"])
                arguments = {
                    "fault": (source.choice(["a", "b", "c", ""]),),
                    "ask": (source.choice(workshop.events() + ["a"]), source.randint(-1, 3)),
                    "buy": (source.choice("abc"),),
                }.get(name, ())
                days, undone, error = self.after(part, days, undone, name, arguments)
                if error is None:
                    getattr(workshop, name)(*arguments)
                else:
                    with self.assertRaises(error):
                        getattr(workshop, name)(*arguments)
                found = (workshop.state(), workshop.events(), workshop.record(), workshop.bill(),
                         len(workshop))
                self.assertEqual(found, self.expect(days, part))
                counts[name, error] = counts.get((name, error), 0) + 1
        for place in [("quiet", None), ("fault", None), ("ask", None), ("buy", None),
                      ("undo", None), ("redo", None), ("ask", Refused), ("ask", InvalidNumber),
                      ("ask", InvalidEvent), ("redo", NothingToUndo)]:
            self.assertGreater(counts.get(place, 0), 10, place)

    def after(self, part, days, undone, name, arguments):
        """Return the days and undone days after a call, and the error that it raises or None."""
        if name in ("undo", "redo"):
            source, target = (days, undone) if name == "undo" else (undone, days)
            if not source:
                return days, undone, NothingToUndo
            moved = (source[:-1], target + source[-1:])
            return (*(moved if name == "undo" else moved[::-1]), None)
        state, possible = self.expect(days, part)[:2]
        event = arguments[0] if arguments else ""
        if len(days) >= 60:
            return days, undone, TooLong
        if event not in possible or (arguments and event == ""):
            return days, undone, InvalidEvent
        number = None
        if name == "ask":
            number = arguments[1]
            if not 0 <= number < len(part[3]):
                return days, undone, InvalidNumber
            if number not in asked(part, state, event):
                return days, undone, Refused
        if name == "fault":
            number = (asked(part, state, event) + [None])[0]
        return days + [(event, number)], [], None

    def test_every_error_is_a_cover_error(self):
        for error in (TooLong, InvalidEvent, InvalidNumber, Refused, NothingToUndo):
            self.assertTrue(issubclass(error, CoverError))
