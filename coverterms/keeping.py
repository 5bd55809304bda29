"""How long, and by which rounds, the owner is kept from paying (6.1, 6.2)."""

from coverterms.checks import is_tuple
from coverterms.courses import LONGEST_COURSE, is_course
from coverterms.errors import TooLarge
from coverterms.graphs import MOST_STATES, explored, first_courses, graph_by_order
from coverterms.parts import check_part
from coverterms.rules import fresh_state, paid_on_days, state_after_days


def free_graph(moves):
    """Return the graph of the days that cost nothing, within a graph of which the moves are told.

    Its nodes are numbers of nodes of that graph.
    """
    free = [[move for move in row if move[1] == 0] for row in moves]
    return explored(0, lambda number: free[number], MOST_STATES)


def longest_free(part):
    """Return the greatest number of days that can cost nothing, None if any number can."""
    check_part(part)
    nodes, moves = graph_by_order(part)
    numbers, free = free_graph(moves)
    level = [0]
    for days in range(len(free)):
        level = sorted({after for number in level for event, paid, after in free[number]})
        if len(level) == 0:
            return days
    # So many days pass some state twice, so they can be repeated.
    return None


def surely_free(part):
    """Return the greatest number of days that surely cost nothing, None if none ever does."""
    check_part(part)
    nodes, moves = graph_by_order(part)
    for course, row in zip(first_courses(moves), moves):
        if any([paid > 0 for event, paid, after in row]):
            return len(course)
    return None


def is_round(part, candidate):
    """Return whether candidate is a round of the part."""
    check_part(part)
    if not is_tuple(candidate, 2, 2):
        return False
    begin, loop = candidate
    if not is_course(part, begin) or not is_tuple(loop, 1, LONGEST_COURSE):
        return False
    state = state_after_days(part, fresh_state(part), begin)
    return state_after_days(part, state, loop) == state


def is_free_round(part, candidate):
    """Return whether candidate is a round of the part that costs nothing."""
    if not is_round(part, candidate):
        return False
    begin, loop = candidate
    return paid_on_days(part, fresh_state(part), begin + loop) == 0


def shortest_loop(moves, number):
    """Return the first of the shortest courses from a node back to it, None if there is none."""
    numbers, rows = explored(number, lambda node: moves[node], len(moves))
    for course, row in zip(first_courses(rows), rows):
        for event, paid, after in row:
            if after == 0:
                return course + (event,)
    return None


def round_within(moves):
    """Return a round of a graph, None if there is none; raise TooLarge if all are too long."""
    found = False
    for number, begin in enumerate(first_courses(moves)):
        loop = shortest_loop(moves, number)
        if loop is not None:
            if max(len(begin), len(loop)) <= LONGEST_COURSE:
                return (begin, loop)
            found = True
    if found:
        raise TooLarge("every round has a beginning or a loop that is too long")
    return None


def free_round(part):
    """Return a free round, None if the owner can not be kept from paying for ever."""
    check_part(part)
    nodes, moves = graph_by_order(part)
    numbers, free = free_graph(moves)
    return round_within(free)
