"""The greatest and the least costs of so many days (7.1, 7.2)."""

from coverterms.checks import check_number
from coverterms.courses import LONGEST_COURSE
from coverterms.graphs import graph_by_order, most_paid
from coverterms.parts import check_part

GREATEST = 1
LEAST = -1


def extreme_cost(part, many, sign):
    """Return the greatest or the least cost of the courses with so many days."""
    check_part(part)
    check_number(many, 0, LONGEST_COURSE)
    nodes, moves = graph_by_order(part)
    return sign * most_paid(moves, many, sign)[many][0]


def greatest_cost(part, many):
    """Return the greatest cost of the courses with so many days."""
    return extreme_cost(part, many, GREATEST)


def least_cost(part, many):
    """Return the least cost of the courses with so many days."""
    return extreme_cost(part, many, LEAST)


def extreme_course(part, many, sign):
    """Return the first course with so many days that has the greatest or the least cost."""
    check_part(part)
    check_number(many, 0, LONGEST_COURSE)
    nodes, moves = graph_by_order(part)
    rows = most_paid(moves, many, sign)
    course = ()
    number = 0
    for days_left in range(many, 0, -1):
        most = rows[days_left][number]
        last = rows[days_left - 1]
        best = [move for move in moves[number] if sign * move[1] + last[move[2]] == most]
        event, paid, number = best[0]
        course += (event,)
    return course


def costliest_course(part, many):
    """Return the first course with so many days that has the greatest cost."""
    return extreme_course(part, many, GREATEST)


def cheapest_course(part, many):
    """Return the first course with so many days that has the least cost."""
    return extreme_course(part, many, LEAST)
