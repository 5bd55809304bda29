"""Courses: days one after the other, who pays and what it costs (3.1, 3.2)."""

from coverterms.checks import is_tuple
from coverterms.errors import InvalidCourse
from coverterms.parts import check_part
from coverterms.rules import fresh_state, number_by_order, paid_on_days
from coverterms.rules import state_after_days, state_by_order

LONGEST_COURSE = 60


def is_course(part, candidate):
    """Return whether candidate is a course of the part."""
    check_part(part)
    if not is_tuple(candidate, 0, LONGEST_COURSE):
        return False
    return state_after_days(part, fresh_state(part), candidate) is not None


def check_course(part, course):
    """Raise InvalidPart or InvalidCourse if one of the two is not what it should be."""
    if not is_course(part, course):
        raise InvalidCourse("not a course of the part")


def state_after(part, course):
    """Return the state after the course."""
    check_course(part, course)
    return state_after_days(part, fresh_state(part), course)


def payments(part, course):
    """Return the list of the (day, kind, payer) of the faults of the course."""
    check_course(part, course)
    paid = []
    state = fresh_state(part)
    for day, event in enumerate(course):
        if event != "":
            paid.append((day, event, payer_by_order(part, state, event)))
        state = state_by_order(part, state, event)
    return paid


def payer_by_order(part, state, kind):
    """Return who pays a fault in the state, "" for the owner."""
    price, lives, most, terms = part
    number = number_by_order(part, state, kind)
    return "" if number is None else terms[number][0]


def cost(part, course):
    """Return the sum of what the owner pays in the course."""
    check_course(part, course)
    return paid_on_days(part, fresh_state(part), course)
