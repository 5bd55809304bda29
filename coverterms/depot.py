"""A depot: several parts in use, with editions, undo and redo (19.1 to 19.4).

All that a depot presently holds is a tuple (days, rows), with one row (name, part, state,
bill) for each part, the names ascending. Such tuples are never changed, so the history and
the editions keep them as they are.
"""

from coverterms.checks import is_kind, is_tuple, is_word
from coverterms.errors import Exists, Full, InvalidDay, InvalidEvent, InvalidName, NoEdition
from coverterms.errors import NoPart, NothingToUndo, Taken
from coverterms.parts import check_part
from coverterms.refusals import uncovered
from coverterms.rules import fresh_state, paid_by_order, payer_by_order, possible_events
from coverterms.rules import state_by_order

MOST_PARTS = 5


def check_name(name):
    """Raise InvalidName if name is not a name."""
    if not is_word(name):
        raise InvalidName("not a string of 1 to 6 letters a to z")


def is_day(names, candidate):
    """Return whether candidate is an ascending tuple of the faults of parts with the names."""
    if not is_tuple(candidate, 0, len(names)):
        return False
    if not all([is_fault(names, fault) for fault in candidate]):
        return False
    faulty = [name for name, kind in candidate]
    return faulty == sorted(set(faulty))


def is_fault(names, candidate):
    """Return whether candidate is a (name, kind) of one of the names."""
    if not is_tuple(candidate, 2, 2):
        return False
    name, kind = candidate
    return name in names and is_kind(kind)


def row_after_day(row, event):
    """Return the row of a part after a day with an event; raise InvalidEvent if it can't come."""
    name, part, state, paid = row
    if event not in possible_events(part, state):
        raise InvalidEvent("the event is not possible")
    more = paid_by_order(part, state, event)
    return (name, part, state_by_order(part, state, event), paid + more)


class Depot:
    """Parts in use, under names."""

    def __init__(self):
        self._now = (0, ())
        # What there was before each call that was not undone, and after each undone one.
        self._past = []
        self._undone = []
        # What the editions keep, by their names.
        self._saved = {}

    def add(self, name, part):
        """Put a part in its new state into the depot."""
        check_name(name)
        if name in self.names():
            raise Exists("there is a part with the name")
        check_part(part)
        days, rows = self._now
        if len(rows) >= MOST_PARTS:
            raise Full("there are as many parts as the depot takes")
        row = (name, part, fresh_state(part), 0)
        self._become((days, tuple(sorted(rows + (row,)))))

    def remove(self, name):
        """Take a part out and return it."""
        row = self._row(name)
        days, rows = self._now
        self._become((days, tuple([other for other in rows if other[0] != name])))
        return row[1]

    def state(self, name):
        """Return the present state of a part."""
        return self._row(name)[2]

    def bill(self, name):
        """Return what the owner has paid for a part since it was put in."""
        return self._row(name)[3]

    def names(self):
        """Return the ascending list of the names of the parts."""
        days, rows = self._now
        return [row[0] for row in rows]

    def day(self, faults):
        """Let a day pass; return the ascending list of the (name, payer) of the faults."""
        if not is_day(self.names(), faults):
            raise InvalidDay("not an ascending tuple of faults of the parts")
        events = dict(faults)
        days, rows = self._now
        passed = tuple([row_after_day(row, events.get(row[0], "")) for row in rows])
        self._become((days + 1, passed))
        return [
            (name, payer_by_order(part, state, events[name]))
            for name, part, state, paid in rows
            if name in events
        ]

    def days(self):
        """Return the number of days that have passed."""
        days, rows = self._now
        return days

    def bills(self):
        """Return the ascending list of the (name, bill) of all parts."""
        days, rows = self._now
        return [(name, paid) for name, part, state, paid in rows]

    def owed(self):
        """Return the ascending list of the (name, kind) for which no payer can be asked."""
        days, rows = self._now
        return [
            (name, kind)
            for name, part, state, paid in rows
            for kind in uncovered(part, state)
        ]

    def save(self, name):
        """Keep what there is now as an edition."""
        check_name(name)
        if name in self._saved:
            raise Taken("there is an edition with the name")
        self._saved[name] = self._now

    def editions(self):
        """Return the ascending list of the names of the editions."""
        return sorted(self._saved)

    def load(self, name):
        """Make what an edition keeps the present."""
        self._become(self._edition(name))

    def dearer(self, name):
        """Return the ascending list of the names whose bill is greater than in the edition."""
        days, rows = self._edition(name)
        before = {row[0]: row[3] for row in rows}
        return [other for other, paid in self.bills() if other in before and paid > before[other]]

    def undo(self):
        """Revert the last call of add, remove, day or load that was not undone."""
        if len(self._past) == 0:
            raise NothingToUndo("there is no call to undo")
        self._undone.append(self._now)
        self._now = self._past.pop()

    def redo(self):
        """Perform the call that was undone last again."""
        if len(self._undone) == 0:
            raise NothingToUndo("no call was undone")
        self._past.append(self._now)
        self._now = self._undone.pop()

    def copy(self):
        """Return an independent depot with the same parts, editions and history."""
        other = Depot()
        other._now = self._now
        other._past = list(self._past)
        other._undone = list(self._undone)
        other._saved = dict(self._saved)
        return other

    def __eq__(self, other):
        return isinstance(other, Depot) and self._now == other._now

    def __len__(self):
        return len(self._now[1])

    def _become(self, now):
        """Make this the present, as a new call that can be undone."""
        self._past.append(self._now)
        self._undone = []
        self._now = now

    def _row(self, name):
        """Return the row of the part with the name; raise NoPart if there is none."""
        days, rows = self._now
        for row in rows:
            if row[0] == name:
                return row
        raise NoPart("there is no part with the name")

    def _edition(self, name):
        """Return what the edition keeps; raise NoEdition if there is none."""
        if not is_word(name) or name not in self._saved:
            raise NoEdition("there is no edition with the name")
        return self._saved[name]
