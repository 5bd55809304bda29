"""A workshop: one part in use, with claims that are refused or late (18.1, 18.2)."""

from coverterms.audits import paid_by_owner
from coverterms.courses import LONGEST_COURSE
from coverterms.errors import InvalidEvent, NothingToUndo, Refused, TooLong
from coverterms.parts import check_part, check_term_number
from coverterms.rules import askable, fresh_state, number_by_order, payer_of, possible_events
from coverterms.rules import state_after_day


class Workshop:
    """A part, its days so far, and the undone days that can pass again."""

    def __init__(self, part):
        check_part(part)
        self._part = part
        # The state before the first day, and the one after each day.
        self._states = [fresh_state(part)]
        # The event and the payer of each day.
        self._entries = []
        # The entries and the states after them, of the days that were undone.
        self._undone = []

    def state(self):
        """Return the present state."""
        return self._states[-1]

    def events(self):
        """Return the ascending list of the events that are possible."""
        return possible_events(self._part, self.state())

    def record(self):
        """Return the record so far."""
        return tuple(self._entries)

    def bill(self):
        """Return what the owner has paid."""
        return paid_by_owner(self._part, self._entries)

    def quiet(self):
        """Let a day pass without a fault."""
        self._check_event("")
        self._let_pass("", None)

    def fault(self, kind):
        """Let a day with a fault pass by the order; return the payer, "" for the owner."""
        self._check_fault(kind)
        return self._let_pass(kind, number_by_order(self._part, self.state(), kind))

    def ask(self, kind, number):
        """Let a day with a fault pass for which the payer of the term pays; return the payer."""
        self._check_fault(kind)
        check_term_number(self._part, number)
        if number not in askable(self._part, self.state(), kind):
            raise Refused("the payer can't be asked")
        return self._let_pass(kind, number)

    def buy(self, kind):
        """Let a day with a fault pass for which the owner buys."""
        self._check_fault(kind)
        self._let_pass(kind, None)

    def undo(self):
        """Revert the last day that was not undone."""
        if len(self._entries) == 0:
            raise NothingToUndo("no day has passed")
        entry = self._entries.pop()
        self._undone.append((entry, self._states.pop()))

    def redo(self):
        """Let the day that was undone last pass again."""
        if len(self._undone) == 0:
            raise NothingToUndo("no day was undone")
        entry, state = self._undone.pop()
        self._keep(entry, state)

    def copy(self):
        """Return an independent workshop with the same part, days and undone days."""
        other = Workshop(self._part)
        other._states = list(self._states)
        other._entries = list(self._entries)
        other._undone = list(self._undone)
        return other

    def __eq__(self, other):
        if not isinstance(other, Workshop):
            return False
        return self._part == other._part and self._entries == other._entries

    def __len__(self):
        return len(self._entries)

    def _check_event(self, event):
        """Raise TooLong or InvalidEvent if no day with the event can pass."""
        if len(self._entries) >= LONGEST_COURSE:
            raise TooLong("there are as many days as a record has at most")
        if event not in self.events():
            raise InvalidEvent("the event is not possible")

    def _check_fault(self, kind):
        """Raise TooLong or InvalidEvent if no day with a fault of the kind can pass."""
        self._check_event(kind)
        if kind == "":
            raise InvalidEvent("a day without a fault is not a fault")

    def _let_pass(self, event, number):
        """Let a day pass that the told one pays for; return the payer."""
        state = state_after_day(self._part, self.state(), event, number)
        payer = payer_of(self._part, number)
        self._keep((event, payer), state)
        self._undone = []
        return payer

    def _keep(self, entry, state):
        """Put a day behind the others."""
        self._entries.append(entry)
        self._states.append(state)
