"""A depot: 19.1 to 19.4."""

import copy
import itertools
import random
import unittest

from coverterms.courses import cost, state_after
from coverterms.days import new_state
from coverterms.depot import Depot
from coverterms.errors import Exists, Full, InvalidDay, InvalidEvent, InvalidName, InvalidPart
from coverterms.errors import NoEdition, NoPart, NothingToUndo, Taken
from coverterms.refusals import uncovered
from coverterms.workshop import Workshop
from tests.model import Model
from tests.samples import BARE, DEEP, DEEP_LIST, HUGE, KEPT, NARROW, ODD, PUMP, WIDE, small_parts
from tests.wrong import BAD_KINDS, BAD_PARTS

BAD_NAMES = [
    "", "abcdefg", "A", "aB", "a ", " a", "a\n", "a1", "1", "a_b", "-", "\u00e4", "\u0430", None,
    True, False, 0, 1, (), [], ("a",), ["a"], ("pump",), ["pump"], DEEP, DEEP_LIST, PUMP,
]
# None of these are faults of a day of a depot with the parts "bare" and "pump".
BAD_FAULTS = [value for value in ODD if value != ()] + [
    [("pump", "b")], (["pump", "b"],), (("pump",),), (("pump", "b", ""),), ("pump", "b"),
    (("pump", ""),), (("pump", None),), (("pump", True),), (("pump", 0),), (("pump", ()),),
    (("pump", ["b"]),), (("pump", "ab"),), (("pump", "d"),), (("pump", "B"),), (("pump", "."),),
    (("other", "b"),), (("", "b"),), (("Pump", "b"),), ((None, "b"),), ((True, "b"),), ((0, "b"),),
    ((("pump",), "b"),), ((["pump"], "b"),), ((DEEP, "b"),), ((DEEP_LIST, "b"),),
    (("pump", DEEP),), (("b", "pump"),), (("pump", "b"), ("bare", "b")),
    (("pump", "a"), ("pump", "b")), (("pump", "b"), ("pump", "b")), (("bare", "b"), ("other", "b")),
    (("bare", "b"), ("bare", "b"), ("pump", "b")), (("bare", "b"), None), (("bare", "b"), ()),
    (("bare", "b"), ["pump", "b"]), (("bare", "b"), ("pump", "b"), ("zoo", "b")), {}, None,
    (("bare", "b"), ("pump", "c"), ("pump", "d")), (("bare", "b"),) * 10, DEEP, DEEP_LIST,
] + [(("pump", kind),) for kind in BAD_KINDS]


def shown(depot):
    """Return what a depot tells of the present and of its editions."""
    names = depot.names()
    editions = depot.editions()
    return [
        names, [depot.state(name) for name in names], [depot.bill(name) for name in names],
        depot.days(), depot.bills(), depot.owed(), len(depot), editions,
        [depot.dearer(name) for name in editions],
    ]


def told(depot):
    """Return all that a depot tells, with its parts, and what undoing and redoing leads to."""
    found = [shown(depot)]
    other = depot.copy()
    found.append([other.remove(name) for name in other.names()])
    for name in depot.editions():
        other = depot.copy()
        other.load(name)
        found.append(shown(other))
        found.append([other.remove(part) for part in other.names()])
    for name in ("undo", "redo"):
        other = depot.copy()
        while True:
            try:
                getattr(other, name)()
            except NothingToUndo:
                break
            found.append(shown(other))
    return found


def with_parts(*parts):
    """Return a depot with parts under the names bare, pump and so on, in the order of names."""
    depot = Depot()
    for name, part in zip(["bare", "pump", "rest", "some", "tail", "zoo"], parts):
        depot.add(name, part)
    return depot


class Checked(unittest.TestCase):
    def assert_refused(self, depot, name, arguments, error):
        """Check that a call raises just this error and changes nothing."""
        before, kept = told(depot), copy.deepcopy(arguments)
        with self.subTest(name, arguments=repr(arguments)[:80]):
            with self.assertRaises(error) as caught:
                getattr(depot, name)(*arguments)
            self.assertIs(caught.exception.__class__, error)
            self.assertEqual(told(depot), before)
            self.assertEqual(repr(arguments), repr(kept))


class Parts(Checked):
    def test_empty(self):
        depot = Depot()
        self.assertEqual(len(depot), 0)
        for name in ("names", "bills", "owed", "editions"):
            self.assertEqual(getattr(depot, name)(), [])
        self.assertEqual(depot.days(), 0)

    def test_add(self):
        depot = Depot()
        self.assertIsNone(depot.add("pump", PUMP))
        self.assertIsNone(depot.add("bare", BARE))
        self.assertIsNone(depot.add("z", WIDE))
        self.assertIsNone(depot.add("abcdef", HUGE))
        self.assertEqual(depot.names(), ["abcdef", "bare", "pump", "z"])
        self.assertEqual(len(depot), 4)
        for name, part in [("pump", PUMP), ("bare", BARE), ("z", WIDE), ("abcdef", HUGE)]:
            self.assertEqual(depot.state(name), new_state(part))
            self.assertEqual(depot.bill(name), 0)
        self.assertEqual(depot.days(), 0)

    def test_the_same_part_twice(self):
        depot = with_parts(PUMP, PUMP)
        depot.day((("pump", "b"),))
        self.assertEqual(depot.state("bare"), (1, ((1, -1), (2, 1))))
        depot.day((("pump", "b"),))
        depot.day((("pump", "b"),))
        self.assertEqual(depot.bills(), [("bare", 0), ("pump", 5)])

    def test_five_parts_and_a_sixth_one(self):
        depot = with_parts(PUMP, BARE, WIDE, NARROW)
        self.assertEqual(len(depot), 4)
        depot.add("tail", KEPT)
        self.assertEqual(len(depot), 5)
        for name in ("zoo", "a", "pumps"):
            self.assert_refused(depot, "add", (name, PUMP), Full)
        depot.remove("pump")
        depot.add("zoo", PUMP)
        self.assert_refused(depot, "add", ("pump", BARE), Full)
        self.assertEqual(depot.names(), ["bare", "rest", "some", "tail", "zoo"])

    def test_add_exceptions_in_order(self):
        for depot in (with_parts(BARE, PUMP), with_parts(BARE, PUMP, WIDE, NARROW, KEPT)):
            for name in BAD_NAMES:
                for part in (PUMP, BAD_PARTS[0], BAD_PARTS[-1]):
                    self.assert_refused(depot, "add", (name, part), InvalidName)
            for name in ("bare", "pump"):
                for part in [PUMP, BARE] + BAD_PARTS[::5]:
                    self.assert_refused(depot, "add", (name, part), Exists)
            for part in BAD_PARTS:
                self.assert_refused(depot, "add", ("zoo", part), InvalidPart)

    def test_remove(self):
        depot = with_parts(BARE, PUMP)
        depot.day((("bare", "b"), ("pump", "b")))
        self.assertEqual(depot.remove("bare"), BARE)
        self.assertEqual(depot.names(), ["pump"])
        self.assertEqual(depot.bills(), [("pump", 0)])
        self.assertEqual(depot.state("pump"), (1, ((1, -1), (2, 1))))
        self.assertEqual(depot.days(), 1)
        self.assert_refused(depot, "remove", ("bare",), NoPart)
        self.assertEqual(depot.remove("pump"), PUMP)
        self.assertEqual(len(depot), 0)
        self.assertEqual(depot.days(), 1)

    def test_a_part_that_was_removed_and_put_in_again(self):
        depot = with_parts(BARE, PUMP)
        for _ in range(3):
            depot.day((("bare", "b"), ("pump", "b")))
        self.assertEqual(depot.bills(), [("bare", 15), ("pump", 5)])
        depot.add("zoo", depot.remove("pump"))
        depot.add("pump", PUMP)
        self.assertEqual(depot.bills(), [("bare", 15), ("pump", 0), ("zoo", 0)])
        self.assertEqual(depot.state("pump"), new_state(PUMP))
        self.assertEqual(depot.state("zoo"), new_state(PUMP))
        self.assertEqual(depot.days(), 3)

    def test_no_part(self):
        for depot in (Depot(), with_parts(BARE, PUMP)):
            for name in ("remove", "state", "bill"):
                for wrong in BAD_NAMES + ["other", "pum", "pumps"]:
                    self.assert_refused(depot, name, (wrong,), NoPart)


class Days(Checked):
    def test_example(self):
        depot = Depot()
        depot.add("pump", PUMP)
        self.assertEqual(depot.day((("pump", "b"),)), [("pump", "maker")])

    def test_ordinary(self):
        depot = with_parts(BARE, PUMP)
        self.assertEqual(depot.day(()), [])
        self.assertEqual(depot.day((("bare", "a"), ("pump", "a"))), [("bare", ""), ("pump", "maker")])
        self.assertEqual(depot.day((("pump", "a"),)), [("pump", "seller")])
        self.assertEqual(depot.day((("pump", "a"),)), [("pump", "")])
        self.assertEqual(depot.days(), 4)
        self.assertEqual(depot.bills(), [("bare", 5), ("pump", 5)])
        self.assertEqual(depot.state("bare"), (3, ()))
        self.assertEqual(depot.state("pump"), (1, ((0, -1), (2, 1))))

    def test_without_parts(self):
        depot = Depot()
        for days in range(1, 70):
            self.assertEqual(depot.day(()), [])
            self.assertEqual(depot.days(), days)
        self.assert_refused(depot, "day", ((("pump", "b"),),), InvalidDay)

    def test_more_than_60_days(self):
        depot = with_parts(PUMP)
        for _ in range(100):
            depot.day((("bare", "b"),))
        self.assertEqual(depot.days(), 100)
        self.assertEqual(depot.bill("bare"), 490)

    def test_all_five_have_a_fault(self):
        depot = with_parts(BARE, PUMP, KEPT, PUMP, BARE)
        faults = tuple((name, "a" if name == "rest" else "b") for name in depot.names())
        self.assertEqual(depot.day(faults), [
            ("bare", ""), ("pump", "maker"), ("rest", "maker"), ("some", "maker"), ("tail", "")])
        self.assertEqual(depot.bills(), [
            ("bare", 5), ("pump", 0), ("rest", 0), ("some", 0), ("tail", 5)])

    def test_owed(self):
        depot = with_parts(BARE, PUMP, NARROW)
        self.assertEqual(depot.owed(), [("bare", "a"), ("bare", "b"), ("rest", "c")])
        depot.day(())
        depot.day(())
        self.assertEqual(depot.owed(), [("bare", "a"), ("bare", "b"), ("pump", "b"), ("rest", "c")])
        depot.remove("bare")
        depot.day((("pump", "a"),))
        self.assertEqual(depot.owed(), [("pump", "a"), ("pump", "b"), ("rest", "c")])

    def test_no_day(self):
        depot = with_parts(BARE, PUMP)
        depot.day(())
        for faults in BAD_FAULTS:
            self.assert_refused(depot, "day", (faults,), InvalidDay)

    def test_an_event_that_is_not_possible(self):
        depot = with_parts(BARE, PUMP)
        for faults in [
            (("pump", "a"),), (("pump", "c"),), (("bare", "b"), ("pump", "a")),
            (("bare", "a"), ("pump", "b")), (("bare", "c"), ("pump", "c")),
        ]:
            self.assert_refused(depot, "day", (faults,), InvalidEvent)
        for _ in range(3):
            depot.day(())
        # Both parts have a fault now at the latest.
        for faults in [(), (("pump", "a"),), (("bare", "b"),), (("bare", "c"), ("pump", "b"))]:
            self.assert_refused(depot, "day", (faults,), InvalidEvent)
        for faults in BAD_FAULTS:
            self.assert_refused(depot, "day", (faults,), InvalidDay)
        self.assertEqual(depot.day((("bare", "b"), ("pump", "a"))), [("bare", ""), ("pump", "")])

    def test_against_workshops_and_courses(self):
        source = random.Random(211)
        for number in range(40):
            parts = small_parts(212 + number, source.randint(1, 5))
            depot = with_parts(*parts)
            names = depot.names()
            workshops = {name: Workshop(part) for name, part in zip(names, parts)}
            courses = {name: () for name in names}
            for day in range(1, 31):
                events = {name: source.choice(workshops[name].events()) for name in names}
                want = []
                for name in names:
                    courses[name] += (events[name],)
                    if events[name] == "":
                        workshops[name].quiet()
                    else:
                        want.append((name, workshops[name].fault(events[name])))
                faults = tuple((name, events[name]) for name in names if events[name] != "")
                self.assertEqual(depot.day(faults), want)
                self.assertEqual(depot.days(), day)
                owed = []
                for name, part in zip(names, parts):
                    state = state_after(part, courses[name])
                    self.assertEqual(depot.state(name), state)
                    self.assertEqual(depot.bill(name), cost(part, courses[name]))
                    owed += [(name, kind) for kind in uncovered(part, state)]
                self.assertEqual(depot.owed(), owed)
                self.assertEqual(depot.bills(), [(name, depot.bill(name)) for name in names])


class Editions(Checked):
    def some_depot(self):
        """Return a depot with the editions one and two."""
        depot = with_parts(BARE, PUMP)
        depot.day((("bare", "b"),))
        self.assertIsNone(depot.save("one"))
        depot.day((("bare", "b"), ("pump", "b")))
        depot.day((("bare", "b"), ("pump", "b")))
        self.assertIsNone(depot.save("two"))
        return depot

    def test_ordinary(self):
        depot = self.some_depot()
        self.assertEqual(depot.editions(), ["one", "two"])
        self.assertEqual(depot.bills(), [("bare", 15), ("pump", 5)])
        self.assertIsNone(depot.load("one"))
        self.assertEqual(depot.bills(), [("bare", 5), ("pump", 0)])
        self.assertEqual(depot.state("pump"), (1, ((1, -1), (2, 1))))
        self.assertEqual(depot.days(), 1)
        depot.load("two")
        self.assertEqual(depot.bills(), [("bare", 15), ("pump", 5)])
        self.assertEqual(depot.days(), 3)

    def test_a_load_between_days(self):
        depot = self.some_depot()
        depot.load("one")
        self.assertEqual(depot.day((("pump", "a"),)), [("pump", "maker")])
        self.assertEqual(depot.days(), 2)
        depot.load("one")
        self.assertEqual(depot.days(), 1)
        self.assertEqual(depot.day((("pump", "b"),)), [("pump", "maker")])
        self.assertEqual(depot.bills(), [("bare", 5), ("pump", 0)])

    def test_an_edition_keeps_the_parts(self):
        depot = self.some_depot()
        depot.remove("pump")
        depot.add("pump", NARROW)
        depot.add("zoo", WIDE)
        depot.load("one")
        self.assertEqual(depot.names(), ["bare", "pump"])
        self.assertEqual(depot.remove("pump"), PUMP)
        empty = Depot()
        empty.save("none")
        empty.add("pump", PUMP)
        empty.day(())
        empty.load("none")
        self.assertEqual((len(empty), empty.days(), empty.names()), (0, 0, []))

    def test_dearer(self):
        depot = self.some_depot()
        self.assertEqual(depot.dearer("one"), ["bare", "pump"])
        self.assertEqual(depot.dearer("two"), [])
        depot.load("one")
        self.assertEqual(depot.dearer("one"), [])
        self.assertEqual(depot.dearer("two"), [])
        depot.day((("bare", "b"),))
        self.assertEqual(depot.dearer("one"), ["bare"])
        depot.add("zoo", BARE)
        depot.day((("bare", "b"), ("zoo", "b")))
        self.assertEqual(depot.dearer("one"), ["bare"])
        depot.remove("bare")
        self.assertEqual(depot.dearer("one"), [])
        # Only the names count, not the parts, and a bill begins anew with a part.
        depot.add("bare", (20,) + BARE[1:])
        self.assertEqual(depot.dearer("one"), [])
        depot.day((("bare", "b"), ("pump", "b")))
        self.assertEqual(depot.bills(), [("bare", 20), ("pump", 5), ("zoo", 5)])
        self.assertEqual(depot.dearer("one"), ["bare", "pump"])
        self.assertEqual(depot.dearer("two"), ["bare"])

    def test_names(self):
        depot = self.some_depot()
        for name in BAD_NAMES:
            self.assert_refused(depot, "save", (name,), InvalidName)
        for name in ("one", "two"):
            self.assert_refused(depot, "save", (name,), Taken)
        for name in BAD_NAMES + ["three", "pump"]:
            self.assert_refused(depot, "load", (name,), NoEdition)
            self.assert_refused(depot, "dearer", (name,), NoEdition)
        for name in ("pump", "abcdef", "z"):
            depot.save(name)
        self.assertEqual(depot.editions(), ["abcdef", "one", "pump", "two", "z"])

    def test_many_editions(self):
        depot = with_parts(PUMP)
        names = ["".join(letters) for letters in itertools.product("cab", repeat=3)]
        for name in names:
            depot.save(name)
            depot.day((("bare", "b"),))
        self.assertEqual(depot.editions(), sorted(names))
        for day, name in enumerate(names):
            depot.load(name)
            self.assertEqual(depot.days(), day)

    def test_undo_and_redo_do_not_affect_them(self):
        depot = with_parts(BARE, PUMP)
        depot.day((("bare", "b"),))
        depot.save("one")
        depot.undo()
        self.assertEqual(depot.editions(), ["one"])
        self.assertEqual(depot.days(), 0)
        depot.save("zero")
        depot.redo()
        self.assertEqual(depot.editions(), ["one", "zero"])
        depot.load("zero")
        self.assertEqual(depot.days(), 0)
        depot.load("one")
        self.assertEqual(depot.bills(), [("bare", 5), ("pump", 0)])
        for _ in range(5):
            depot.undo()
        self.assert_refused(depot, "undo", (), NothingToUndo)
        self.assertEqual(depot.editions(), ["one", "zero"])
        self.assertEqual(len(depot), 0)
        depot.load("one")
        self.assertEqual(depot.names(), ["bare", "pump"])


class UndoAndRedo(Checked):
    def test_one_by_one(self):
        depot = Depot()
        seen = [shown(depot)]
        for name, arguments in [
            ("add", ("pump", PUMP)), ("add", ("bare", BARE)), ("day", ((("bare", "b"),),)),
            ("day", ((("pump", "b"),),)), ("remove", ("bare",)), ("add", ("bare", NARROW)),
            ("day", ((("pump", "b"),),)), ("remove", ("pump",)), ("day", ((("bare", "c"),),)),
            ("add", ("pump", PUMP)), ("day", ((("pump", "b"),),)),
        ]:
            getattr(depot, name)(*arguments)
            seen.append(shown(depot))
        for many in range(2):
            for want in seen[-2::-1]:
                self.assertIsNone(depot.undo())
                self.assertEqual(shown(depot), want)
            self.assert_refused(depot, "undo", (), NothingToUndo)
            for want in seen[1:]:
                self.assertIsNone(depot.redo())
                self.assertEqual(shown(depot), want)
            self.assert_refused(depot, "redo", (), NothingToUndo)
        self.assertEqual(depot.remove("pump"), PUMP)
        self.assertEqual(depot.remove("bare"), NARROW)

    def test_a_load_is_undone_and_done_again(self):
        depot = with_parts(BARE)
        depot.day((("bare", "b"),))
        depot.save("one")
        depot.day((("bare", "b"),))
        depot.load("one")
        # A load of what there is already is a call like another one.
        depot.load("one")
        for bill, days in [(5, 1), (10, 2), (5, 1), (0, 0)]:
            depot.undo()
            self.assertEqual((depot.bill("bare"), depot.days()), (bill, days))
        for bill, days in [(5, 1), (10, 2), (5, 1), (5, 1)]:
            depot.redo()
            self.assertEqual((depot.bill("bare"), depot.days()), (bill, days))
        self.assert_refused(depot, "redo", (), NothingToUndo)

    def test_nothing_to_undo(self):
        depot = Depot()
        self.assert_refused(depot, "undo", (), NothingToUndo)
        self.assert_refused(depot, "redo", (), NothingToUndo)
        depot.save("one")
        self.assert_refused(depot, "undo", (), NothingToUndo)

    def test_a_new_call_clears_what_can_be_redone(self):
        for name, arguments in [("add", ("zoo", WIDE)), ("remove", ("bare",)), ("day", ((),)),
                                ("load", ("one",))]:
            depot = with_parts(BARE, PUMP)
            depot.save("one")
            depot.day((("bare", "b"),))
            depot.undo()
            getattr(depot, name)(*arguments)
            self.assert_refused(depot, "redo", (), NothingToUndo)
            depot.undo()
            self.assertEqual(depot.bills(), [("bare", 0), ("pump", 0)])
            depot.redo()

    def test_other_calls_clear_nothing(self):
        depot = with_parts(BARE, PUMP)
        depot.save("one")
        depot.day((("bare", "b"),))
        depot.undo()
        for name, arguments, error in [
            ("add", ("bare", BARE), Exists), ("remove", ("zoo",), NoPart),
            ("day", ((("zoo", "b"),),), InvalidDay), ("day", ((("bare", "a"),),), InvalidEvent),
            ("load", ("zoo",), NoEdition), ("save", ("one",), Taken), ("add", ("z", ()), InvalidPart),
        ]:
            self.assert_refused(depot, name, arguments, error)
        depot.save("two")
        depot.names()
        depot.copy()
        depot.dearer("one")
        depot.redo()
        self.assertEqual(depot.bills(), [("bare", 5), ("pump", 0)])

    def test_what_is_returned_may_be_changed(self):
        depot = with_parts(BARE, PUMP)
        depot.day((("bare", "b"),))
        depot.save("one")
        returned = depot.day((("bare", "b"), ("pump", "b")))
        before = told(depot)
        returned.clear()
        for name in ("names", "bills", "owed", "editions"):
            getattr(depot, name)().clear()
            getattr(depot, name)().append("x")
        depot.dearer("one").clear()
        self.assertEqual(told(depot), before)


class CopiesAndEquality(Checked):
    def test_copies_are_equal_and_independent(self):
        depot = with_parts(BARE, PUMP)
        depot.save("one")
        depot.day((("bare", "b"),))
        depot.day((("bare", "b"),))
        depot.undo()
        other = depot.copy()
        self.assertIsInstance(other, Depot)
        self.assertIsNot(other, depot)
        self.assertTrue(other == depot)
        self.assertEqual(told(other), told(depot))
        before = told(depot)
        for name, arguments in [
            ("redo", ()), ("undo", ()), ("undo", ()), ("day", ((),)), ("save", ("two",)),
            ("add", ("zoo", WIDE)), ("remove", ("bare",)), ("load", ("one",)),
        ]:
            getattr(other, name)(*arguments)
            self.assertEqual(told(depot), before)
        before = told(other)
        for name, arguments in [
            ("redo", ()), ("save", ("three",)), ("undo", ()), ("remove", ("bare",)), ("undo", ()),
            ("undo", ()), ("undo", ()), ("add", ("zoo", WIDE)), ("load", ("one",)),
        ]:
            getattr(depot, name)(*arguments)
            self.assertEqual(told(other), before)

    def test_equality(self):
        self.assertTrue(Depot() == Depot())
        one, other = Depot(), Depot()
        one.add("pump", PUMP)
        self.assertTrue(one != other)
        one.add("bare", BARE)
        other.add("bare", BARE)
        self.assertFalse(one == other)
        other.add("pump", PUMP)
        self.assertTrue(one == other)
        # Neither the history nor the editions count.
        other.save("one")
        other.day(())
        self.assertFalse(one == other)
        other.undo()
        self.assertTrue(one == other)
        self.assertFalse(one != other)

    def test_what_makes_two_depots_differ(self):
        depot = with_parts(PUMP)
        for part in (BARE, (6,) + PUMP[1:]):
            self.assertFalse(depot == with_parts(part))
        other = Depot()
        other.add("pump", PUMP)
        self.assertFalse(depot == other)
        other = Depot()
        other.day(())
        other.add("bare", PUMP)
        # Only the numbers of days differ.
        self.assertEqual(shown(other)[:3], shown(depot)[:3])
        self.assertFalse(depot == other)
        depot.day((("bare", "b"),))
        depot.day((("bare", "b"),))
        other = with_parts(PUMP)
        other.day(())
        other.day((("bare", "b"),))
        self.assertTrue(depot == other)
        # The same state and number of days, but another bill.
        one, other = with_parts(BARE), with_parts(BARE)
        one.day((("bare", "b"),))
        other.day(())
        self.assertEqual(one.state("bare"), other.state("bare"))
        self.assertFalse(one == other)

    def test_not_equal_to_any_other_object(self):
        depot = with_parts(PUMP)
        for other in [None, True, False, 0, 1, "", (), [], {}, PUMP, Workshop(PUMP), object(), Depot,
                      (0, ()), (0, (("bare", PUMP, new_state(PUMP), 0),)), DEEP_LIST]:
            for one in (depot, Depot()):
                self.assertFalse(one == other)
                self.assertFalse(other == one)
                self.assertTrue(one != other)


class Replayed:
    """A second depot: it keeps the calls, and finds all else by doing them again."""

    def __init__(self):
        self.calls, self.undone, self.saved = [], [], {}

    def now(self):
        """Return the days and a dict from names to the part, its model and its bill."""
        return self.after(self.calls)

    def after(self, calls):
        days, parts = 0, {}
        for name, argument in calls:
            if name == "add":
                parts[argument[0]] = [argument[1], Model(argument[1]), 0]
            elif name == "remove":
                del parts[argument[0]]
            elif name == "load":
                days, parts = self.after(self.saved[argument[0]])
            else:
                days += 1
                for key, entry in parts.items():
                    payer = entry[1].day(dict(argument[0]).get(key, ""))
                    entry[2] += entry[0][0] if payer == "" else 0
        return days, parts

    def call(self, name, argument):
        if name == "save":
            self.saved[argument[0]] = list(self.calls)
        elif name == "undo":
            self.undone.append(self.calls.pop())
        elif name == "redo":
            self.calls.append(self.undone.pop())
        else:
            self.calls.append((name, argument))
            self.undone = []

    def shown(self):
        days, parts = self.now()
        names = sorted(parts)
        owed = [
            (name, kind) for name in names for kind in "abc"
            if kind in parts[name][1].lives and not parts[name][1].asked(kind)
        ]
        dearer = []
        for edition in sorted(self.saved):
            before = self.after(self.saved[edition])[1]
            dearer.append([
                name for name in names if name in before and parts[name][2] > before[name][2]])
        return [
            names, [parts[name][1].state() for name in names], [parts[name][2] for name in names],
            days, [(name, parts[name][2]) for name in names], owed, len(names),
            sorted(self.saved), dearer,
        ]


class AgainstReplays(unittest.TestCase):
    def test_any_calls(self):
        source = random.Random(213)
        counts = {}
        for number in range(80):
            pool = small_parts(214 + number, 6) + [PUMP, BARE, KEPT]
            depot, other = Depot(), Replayed()
            for _ in range(60):
                name, argument = self.choose(source, depot, other, pool)
                if name is None:
                    continue
                getattr(depot, name)(*argument)
                other.call(name, argument)
                self.assertEqual(shown(depot), other.shown())
                counts[name] = counts.get(name, 0) + 1
        self.assertEqual(len(counts), 7)
        self.assertGreater(min(counts.values()), 20)

    def choose(self, source, depot, other, pool):
        """Return a call that can be made, or None as its name."""
        name = source.choice(["add", "add", "remove", "save", "load", "undo", "redo"] + ["day"] * 6)
        names, editions = depot.names(), depot.editions()
        free = [word for word in ("a", "bb", "ccc", "dd", "e", "f") if word not in names]
        if name == "add" and len(names) < 5:
            return name, (source.choice(free), source.choice(pool))
        if name == "remove" and len(names) > 1:
            return name, (source.choice(names),)
        if name == "load" and editions:
            return name, (source.choice(editions),)
        if name == "save" and len(editions) < 6:
            return name, ("xyzuvw"[len(editions)],)
        if name == "undo" and other.calls or name == "redo" and other.undone:
            return name, ()
        if name == "day":
            parts = other.now()[1]
            events = {word: source.choice(parts[word][1].events()) for word in names}
            return name, (tuple((word, events[word]) for word in names if events[word] != ""),)
        return None, ()
