"""Faults that are left to the owner, and proofs that none is (5.1, 5.2)."""

from coverterms.days import check_kind, is_state
from coverterms.graphs import first_courses, graph_by_order
from coverterms.parts import check_part
from coverterms.rules import fresh_state, moves_by_order, number_by_order, possible_events


def leaves(part, state, kind):
    """Return whether a fault of the kind is possible in the state and left to the owner."""
    return kind in possible_events(part, state) and number_by_order(part, state, kind) is None


def can_be_left(part, kind):
    """Return whether in some course a fault of the kind is left to the owner."""
    check_part(part)
    check_kind(kind)
    nodes, moves = graph_by_order(part)
    return any([leaves(part, state, kind) for state in nodes])


def leaving_course(part, kind):
    """Return the first of the shortest courses that end with a fault left to the owner."""
    check_part(part)
    check_kind(kind)
    nodes, moves = graph_by_order(part)
    # The nodes stand in the order of their first courses, the shortest ones first.
    for state, course in zip(nodes, first_courses(moves)):
        if leaves(part, state, kind):
            return course + (kind,)
    return None


def is_safe_set(part, kind, candidate):
    """Return whether candidate is a safe set of the part for the kind."""
    check_part(part)
    check_kind(kind)
    if not is_ascending_states(part, candidate):
        return False
    known = {state: True for state in candidate}
    if fresh_state(part) not in known:
        return False
    for state in candidate:
        if leaves(part, state, kind):
            return False
        if not all([after in known for event, paid, after in moves_by_order(part, state)]):
            return False
    return True


def is_ascending_states(part, candidate):
    """Return whether candidate is an ascending list of states of the part."""
    if not isinstance(candidate, list):
        return False
    if not all([is_state(part, state) for state in candidate]):
        return False
    return candidate == sorted(set(candidate))


def safe_set(part, kind):
    """Return the safe set of all states of the part, None if there is no safe set."""
    check_part(part)
    check_kind(kind)
    nodes, moves = graph_by_order(part)
    # Every safe set contains all states of the part.
    if any([leaves(part, state, kind) for state in nodes]):
        return None
    return sorted(nodes)
