"""Slow second ways, by trying all courses, over the second reading in tests/model.py."""

from tests.model import Model


def days_from(part, state):
    """Return the (event, payer, state after the day) that can follow; no fault has no payer."""
    found = []
    model = Model(part)
    model.put(state)
    for event in model.events():
        model.put(state)
        payer = model.day(event)
        found.append((event, payer, model.state()))
    return found


def beginning(part):
    return Model(part).state()


def closure(part):
    """Return the set of all states that result from courses."""
    known = {beginning(part)}
    waiting = list(known)
    while waiting:
        for event, payer, state in days_from(part, waiting.pop()):
            if state not in known:
                known.add(state)
                waiting.append(state)
    return known


def walks(part, many):
    """Return for 0 to so many days the ascending lists of (course, cost, state, payers)."""
    levels = [[((), 0, beginning(part), ())]]
    followers = {}
    for day in range(many):
        level = []
        for course, cost, state, paid in levels[-1]:
            if state not in followers:
                followers[state] = days_from(part, state)
            for event, payer, after in followers[state]:
                more = part[0] if payer == "" else 0
                level.append((course + (event,), cost + more, after, paid + (payer,)))
        levels.append(level)
    return levels


def follow(part, state, course):
    """Return the state after a course from a state on, and its cost."""
    model = Model(part)
    model.put(state)
    cost = 0
    for event in course:
        assert event in model.events(), (part, state, course)
        cost += part[0] if model.day(event) == "" else 0
    return model.state(), cost


def all_rows(part):
    """Return all states of a part as in 2.1, whether they result from a course or not."""
    price, lives, most, terms = part
    rows = [()]
    for payer, days, kinds, renewal, claims, sale in terms:
        uses = [-1] if claims == 0 else range(claims + 1)
        rows = [row + ((left, use),) for row in rows for left in range(days + 1) for use in uses]
    ages = most if most else max(least for kind, least in lives)
    return [(age, row) for age in range(ages + 1) for row in rows]
