"""Days: states of a part, and what a day changes (2.1 to 2.3)."""

from coverterms.checks import is_kind, is_number, is_tuple
from coverterms.errors import InvalidEvent, InvalidKind, InvalidState
from coverterms.parts import check_part
from coverterms.rules import UNLIMITED, askable, fresh_state, greatest_age
from coverterms.rules import possible_events, state_by_order


def new_state(part):
    """Return the new state of the part."""
    check_part(part)
    return fresh_state(part)


def is_state(part, candidate):
    """Return whether candidate is a state of the part, reached or not."""
    check_part(part)
    if not is_tuple(candidate, 2, 2):
        return False
    age, rows = candidate
    return is_number(age, 0, greatest_age(part)) and is_rows(part, rows)


def is_rows(part, candidate):
    """Return whether candidate is the rows of a state of the part."""
    price, lives, most, terms = part
    if not is_tuple(candidate, len(terms), len(terms)):
        return False
    return all([is_row(term, row) for term, row in zip(terms, candidate)])


def is_row(term, candidate):
    """Return whether candidate is days and claims left of the term."""
    if not is_tuple(candidate, 2, 2):
        return False
    payer, days, kinds, renewal, claims, sale = term
    left, claims_left = candidate
    if not is_number(left, 0, days):
        return False
    if claims == 0:
        return is_number(claims_left, UNLIMITED, UNLIMITED)
    return is_number(claims_left, 0, claims)


def check_state(part, state):
    """Raise InvalidPart or InvalidState if one of the two is not what it should be."""
    if not is_state(part, state):
        raise InvalidState("not a state of the part")


def check_kind(kind):
    """Raise InvalidKind if kind is not a kind of fault."""
    if not is_kind(kind):
        raise InvalidKind("not a kind of fault")


def events(part, state):
    """Return the ascending list of the events that are possible in the state."""
    check_state(part, state)
    return possible_events(part, state)


def asked(part, state, kind):
    """Return the ascending list of the numbers of the terms that can be asked."""
    check_state(part, state)
    check_kind(kind)
    return askable(part, state, kind)


def next_state(part, state, event):
    """Return the state after a day with an event, by the order."""
    check_state(part, state)
    if event not in possible_events(part, state):
        raise InvalidEvent("the event is not possible in the state")
    return state_by_order(part, state, event)
