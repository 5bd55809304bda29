"""Courses: days one after the other, who pays and what it costs (3.1, 3.2)."""

from coverterms.checks import is_tuple
from coverterms.errors import InvalidCourse
from coverterms.parts import check_part
from coverterms.rules import fresh_state, paid_on_days, payer_by_order
from coverterms.rules import state_after_days, state_by_order

LONGEST_COURSE = 60


def is_course(part, candidate):
    """Return whether candidate is a course of the part."""
    check_part(part)
    if not is_tuple(candidate, 0, LONGEST_COURSE):
        return False
    return state_after_days(part, fresh_state(part), candidate) is not None


def check_course(part, course):
    """Raise InvalidPart or InvalidCourse if one of the two is not what it should be."""
    if not is_course(part, course):
        raise InvalidCourse("not a course of the part")


def state_after(part, course):
    """Return the state after the course."""
    check_course(part, course)
    return state_after_days(part, fresh_state(part), course)


def entries_by_order(part, course):
    """Return the list of the (event, payer) of the days of the course."""
    entries = []
    state = fresh_state(part)
    for event in course:
        entries.append((event, payer_by_order(part, state, event)))
        state = state_by_order(part, state, event)
    return entries


def payments(part, course):
    """Return the list of the (day, kind, payer) of the faults of the course."""
    check_course(part, course)
    return [
        (day, event, payer)
        for day, (event, payer) in enumerate(entries_by_order(part, course))
        if event != ""
    ]


def cost(part, course):
    """Return the sum of what the owner pays in the course."""
    check_course(part, course)
    return paid_on_days(part, fresh_state(part), course)
