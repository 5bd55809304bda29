"""All states that courses lead to, and who ever pays (4.1 to 4.3)."""

from coverterms.checks import KINDS
from coverterms.days import check_kind, check_state
from coverterms.graphs import first_courses, graph_by_order
from coverterms.parts import check_part, payers
from coverterms.rules import payer_by_order, possible_events


def all_states(part):
    """Return the ascending list of the states of the part."""
    check_part(part)
    nodes, moves = graph_by_order(part)
    return sorted(nodes)


def course_to(part, state):
    """Return the first of the shortest courses to the state, None if there is none."""
    check_state(part, state)
    nodes, moves = graph_by_order(part)
    if state not in nodes:
        return None
    return first_courses(moves)[nodes.index(state)]


def payers_at(part, nodes, kind):
    """Return who pays at the faults of the kind in the nodes, "" for the owner."""
    return sorted({
        payer_by_order(part, state, kind)
        for state in nodes
        if kind in possible_events(part, state)
    })


def never_asked(part):
    """Return the list of the payers, in their order, who never pay in any course."""
    check_part(part)
    nodes, moves = graph_by_order(part)
    paying = []
    for kind in KINDS:
        paying.extend(payers_at(part, nodes, kind))
    return [payer for payer in payers(part) if payer not in paying]


def sole_payer(part, kind):
    """Return who pays all faults of the kind, None if several do or none can come."""
    check_part(part)
    check_kind(kind)
    nodes, moves = graph_by_order(part)
    found = payers_at(part, nodes, kind)
    return found[0] if len(found) == 1 else None
