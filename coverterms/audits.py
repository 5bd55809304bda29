"""Records: who has paid, whether they were to be asked, and what is lost (17.1 to 17.4)."""

from coverterms.checks import is_tuple
from coverterms.choosing import graph_by_choice
from coverterms.courses import LONGEST_COURSE, check_course, entries_by_order, is_course
from coverterms.errors import InvalidRecord, NotAllowed
from coverterms.parts import check_part, payers
from coverterms.rules import askable, fresh_state, payer_of, state_after_day

# The least sum of no days, and the payers of these days.
NOTHING = (0, ())


def is_record(part, candidate):
    """Return whether candidate is a record of the part."""
    check_part(part)
    if not is_tuple(candidate, 0, LONGEST_COURSE):
        return False
    if not all([is_tuple(entry, 2, 2) for entry in candidate]):
        return False
    if not is_course(part, events_of(candidate)):
        return False
    known = payers(part)
    return all([payer == "" or event != "" and payer in known for event, payer in candidate])


def events_of(record):
    """Return the events of the record."""
    return tuple([event for event, payer in record])


def check_record(part, record):
    """Raise InvalidPart or InvalidRecord if one of the two is not what it should be."""
    if not is_record(part, record):
        raise InvalidRecord("not a record of the part")


def record_of(part, course):
    """Return the record of the course by the order."""
    check_course(part, course)
    return tuple(entries_by_order(part, course))


def is_allowed(part, record):
    """Return whether the record is allowed."""
    return first_wrong(part, record) is None


def bill(part, record):
    """Return what the owner pays by the record."""
    check_record(part, record)
    return paid_by_owner(part, record)


def paid_by_owner(part, entries):
    """Return what the owner pays by the (event, payer) of some days."""
    price, lives, most, terms = part
    return price * len([event for event, payer in entries if event != "" and payer == ""])


def first_wrong(part, record):
    """Return the number of the first day on which the payer can't be asked, None if none."""
    check_record(part, record)
    numbers = {payer: number for number, payer in enumerate(payers(part))}
    state = fresh_state(part)
    for day, (event, payer) in enumerate(record):
        number = numbers.get(payer)
        if number is not None and number not in askable(part, state, event):
            return day
        state = state_after_day(part, state, event, number)
    return None


def first_off(part, record):
    """Return the number of the first day on which another one pays than by the order."""
    check_record(part, record)
    # Up to that day the states are those by the order, too.
    by_order = entries_by_order(part, events_of(record))
    for day, (entry, usual) in enumerate(zip(record, by_order)):
        if entry != usual:
            return day
    return None


def ways_of_days(part, course):
    """Return for each day of the course a dict from the states in which it can begin.

    It leads from the number of the state to the (payer, paid, number of the state after) of
    the choices that are allowed.
    """
    nodes, options = graph_by_choice(part, fresh_state(part))
    days = []
    level = [0]
    for event in course:
        day = {
            number: [
                (payer_of(part, chosen), paid, after)
                for chosen, paid, after in options[number][event]
            ]
            for number in level
        }
        days.append(day)
        level = sorted({after for ways in day.values() for payer, paid, after in ways})
    return days


def first_least(days):
    """Return the least sum of one way through all the days, and the payers of the first such way.

    days are as ways_of_days returns them, perhaps with something else to add up than is paid.
    """
    best = {}
    for day in days[::-1]:
        last = best
        best = {}
        for number, ways in day.items():
            found = []
            for payer, weight, after in ways:
                total, later = last.get(after, NOTHING)
                found.append((weight + total, (payer,) + later))
            best[number] = min(found)
    return best.get(0, NOTHING)


def least_changes(part, record):
    """Return the fewest days with another payer in an allowed record, and its payers."""
    days = []
    for (event, usual), day in zip(record, ways_of_days(part, events_of(record))):
        days.append({
            number: [(payer, 0 if payer == usual else 1, after) for payer, paid, after in ways]
            for number, ways in day.items()
        })
    return first_least(days)


def fewest_changes(part, record):
    """Return the least number of days to change so that the record is allowed."""
    check_record(part, record)
    changes, chosen = least_changes(part, record)
    return changes


def mended(part, record):
    """Return the first of the allowed records with the same events and the fewest changes."""
    check_record(part, record)
    changes, chosen = least_changes(part, record)
    return tuple(zip(events_of(record), chosen))


def least_bill(part, course):
    """Return the least that the owner can pay by an allowed record of the course."""
    check_course(part, course)
    paid, chosen = first_least(ways_of_days(part, course))
    return paid


def best_record(part, course):
    """Return the first allowed record of the course by which the owner pays the least."""
    check_course(part, course)
    paid, chosen = first_least(ways_of_days(part, course))
    return tuple(zip(course, chosen))


def lost(part, record):
    """Return by how much the bill of the record is greater than the least one."""
    if not is_allowed(part, record):
        raise NotAllowed("some payer can't be asked")
    return paid_by_owner(part, record) - least_bill(part, events_of(record))
