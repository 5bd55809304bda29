"""Graphs of states, and of what else days lead to.

A graph is a pair (nodes, moves). The nodes are told by their numbers from 0 on, the
beginning first. moves has one list for each node, of tuples (event, paid, number of the
node after the day).
"""

from coverterms.errors import TooLarge
from coverterms.rules import fresh_state, moves_by_order

MOST_STATES = 400


def explored(beginning, moves_of, limit):
    """Return the graph of all nodes to which days lead from the beginning, nearest first.

    moves_of(node) returns the moves of a node, with the node after the day itself.
    """
    nodes = [beginning]
    numbers = {beginning: 0}
    moves = []
    while len(moves) < len(nodes):
        numbered = []
        found = moves_of(nodes[len(moves)])
        for event, paid, node in found:
            if node not in numbers:
                numbers[node] = len(nodes)
                nodes.append(node)
            numbered.append((event, paid, numbers[node]))
        if len(nodes) > limit:
            raise TooLarge("more than the limit of nodes")
        moves.append(numbered)
    return nodes, moves


def graph_by_order(part):
    """Return the graph of the states of the part, by the order."""
    return explored(fresh_state(part), lambda state: moves_by_order(part, state), MOST_STATES)


def first_courses(moves):
    """Return for each node of a graph the first of the shortest courses to it.

    The nodes are numbered nearest first, and those of one day in the order of their first
    courses, as the moves of each node ascend; so the course that finds a node is its first.
    """
    courses = {0: ()}
    for number, row in enumerate(moves):
        for event, paid, after in row:
            if after not in courses:
                courses[after] = courses[number] + (event,)
    return [courses[number] for number in range(len(moves))]


def most_paid(moves, many, sign):
    """Return for 0 to so many days the lists of the most that days from each node cost.

    With the sign -1 the costs count negative, so that the most is the least cost.
    """
    rows = [[0 for row in moves]]
    for _ in range(many):
        last = rows[-1]
        rows.append([max([sign * paid + last[after] for event, paid, after in row]) for row in moves])
    return rows
