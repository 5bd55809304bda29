"""An owner who chooses who pays, against the worst faults (10.1 to 10.3)."""

from coverterms.checks import check_number
from coverterms.days import check_state
from coverterms.errors import InvalidEvent
from coverterms.extremes import greatest_cost
from coverterms.graphs import MOST_STATES, explored, graph_by_order
from coverterms.parts import check_part
from coverterms.rules import askable, fresh_state, possible_events, state_after_fault
from coverterms.rules import state_after_quiet

MOST_DAYS = 20


def moves_by_choice(part, state):
    """Return the ((event, number), paid, state after the day) of all events and choices.

    The number is that of the term that pays, None for the owner, who comes last.
    """
    price, lives, most, terms = part
    moves = []
    for event in possible_events(part, state):
        if event == "":
            moves.append((("", None), 0, state_after_quiet(part, state)))
        else:
            for number in askable(part, state, event):
                moves.append(((event, number), 0, state_after_fault(part, state, number)))
            moves.append(((event, None), price, state_after_fault(part, state, None)))
    return moves


def graph_by_choice(part, state):
    """Return the states that can be reached from the state by choosing, and their options.

    For each state there is a dict from its events to the lists of the (number, paid, number
    of the state after the day) between which the owner chooses.
    """
    nodes, moves = explored(state, lambda node: moves_by_choice(part, node), MOST_STATES)
    return nodes, [options_of(row) for row in moves]


def options_of(row):
    """Return the options of each event, from the moves of a state."""
    options = {}
    for (event, number), paid, after in row:
        options.setdefault(event, []).append((number, paid, after))
    return options


def surest(choices, last):
    """Return the least cost of a choice, with the sure costs of the days behind it."""
    return min([paid + last[after] for number, paid, after in choices])


def sure_costs(options, many):
    """Return the list of the sure costs of so many days in each state."""
    costs = [0 for row in options]
    for _ in range(many):
        costs = [max([surest(choices, costs) for choices in row.values()]) for row in options]
    return costs


def sure_cost(part, many):
    """Return the sure cost of so many days in the new state."""
    check_part(part)
    check_number(many, 0, MOST_DAYS)
    nodes, options = graph_by_choice(part, fresh_state(part))
    return sure_costs(options, many)[0]


def price_of_order(part, many):
    """Return by how much the greatest cost by the order exceeds the sure cost."""
    sure = sure_cost(part, many)
    return greatest_cost(part, many) - sure


def best_choice(part, state, kind, many):
    """Return the number of the term that is best asked at the fault, None for buying."""
    check_state(part, state)
    if kind == "" or kind not in possible_events(part, state):
        raise InvalidEvent("the fault is not possible in the state")
    check_number(many, 1, MOST_DAYS)
    nodes, options = graph_by_choice(part, state)
    last = sure_costs(options, many - 1)
    choices = options[0][kind]
    least = surest(choices, last)
    return [number for number, paid, after in choices if paid + last[after] == least][0]


def wrong_firsts(part, many):
    """Return the list of the (state, kind) in which the first payer is not a best choice."""
    check_part(part)
    check_number(many, 1, MOST_DAYS)
    nodes, options = graph_by_choice(part, fresh_state(part))
    last = sure_costs(options, many - 1)
    by_order, moves = graph_by_order(part)
    return [
        (state, kind)
        for state in sorted(by_order)
        for kind, choices in options[nodes.index(state)].items()
        if is_wrong_first(choices, last)
    ]


def is_wrong_first(choices, last):
    """Return whether the first payer of several choices can be asked, but is not a best one."""
    number, paid, after = choices[0]
    return number is not None and paid + last[after] > surest(choices, last)
