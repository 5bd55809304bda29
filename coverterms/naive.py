"""Answers that are found by trying all courses or all choices (13.1 to 13.3)."""

from coverterms.checks import check_number
from coverterms.choosing import moves_by_choice, options_of
from coverterms.comparing import check_parts
from coverterms.errors import TooLarge
from coverterms.parts import check_part
from coverterms.rules import fresh_state, moves_by_order

MOST_DAYS = 8
MOST_DAYS_OF_CHOICES = 5
MOST_COURSES = 3000


def courses_by_days(part, many):
    """Return for 0 to so many days the ascending lists of the (course, cost, state after it)."""
    levels = [[((), 0, fresh_state(part))]]
    for _ in range(many):
        level = [
            (course + (event,), cost + paid, after)
            for course, cost, state in levels[-1]
            for event, paid, after in moves_by_order(part, state)
        ]
        # There is an event for each day, so there are never fewer courses with more days.
        if len(level) > MOST_COURSES:
            raise TooLarge("more courses than the limit")
        levels.append(level)
    return levels


def all_courses(part, many):
    """Return the ascending list of all courses with so many days."""
    check_part(part)
    check_number(many, 0, MOST_DAYS)
    return [course for course, cost, state in courses_by_days(part, many)[many]]


def naive_parting(one, other, many):
    """Return the first of the shortest courses, within so many days, that cost more with one."""
    check_parts(one, other)
    check_number(many, 0, MOST_DAYS)
    for level, other_level in zip(courses_by_days(one, many), courses_by_days(other, many)):
        # Both lists have the same courses, in the same order.
        for (course, cost, state), (same, other_cost, other_state) in zip(level, other_level):
            if cost > other_cost:
                return course
    return None


def naive_sure(part, many):
    """Return the sure cost of so many days in the new state."""
    check_part(part)
    check_number(many, 0, MOST_DAYS_OF_CHOICES)
    return tried_cost(part, fresh_state(part), many, {})


def tried_cost(part, state, many, known):
    """Return the sure cost of so many days in the state; known keeps what was tried before."""
    if many == 0:
        return 0
    if (state, many) not in known:
        options = options_of(moves_by_choice(part, state))
        known[(state, many)] = max([
            min([
                paid + tried_cost(part, after, many - 1, known)
                for number, paid, after in choices
            ])
            for choices in options.values()
        ])
    return known[(state, many)]
