"""Slow second ways, by trying all courses, over the second reading in tests/model.py."""

from tests.model import Model


def days_from(part, state):
    """Return the (event, payer, state after the day) that can follow; no fault has no payer."""
    found = []
    model = Model(part)
    model.put(state)
    for event in model.events():
        model.put(state)
        payer = model.day(event)
        found.append((event, payer, model.state()))
    return found


def beginning(part):
    return Model(part).state()


def closure(part):
    """Return the set of all states that result from courses."""
    known = {beginning(part)}
    waiting = list(known)
    while waiting:
        for event, payer, state in days_from(part, waiting.pop()):
            if state not in known:
                known.add(state)
                waiting.append(state)
    return known


def model_allows(part, course):
    """Return whether the events of a course are possible one after the other."""
    model = Model(part)
    for event in course:
        if event not in model.events():
            return False
        model.day(event)
    return True


def walks(part, many):
    """Return for 0 to so many days the ascending lists of (course, cost, state, payers)."""
    levels = [[((), 0, beginning(part), ())]]
    followers = {}
    for day in range(many):
        level = []
        for course, cost, state, paid in levels[-1]:
            if state not in followers:
                followers[state] = days_from(part, state)
            for event, payer, after in followers[state]:
                more = part[0] if payer == "" else 0
                level.append((course + (event,), cost + more, after, paid + (payer,)))
        levels.append(level)
    return levels


def follow(part, state, course):
    """Return the state after a course from a state on, and its cost."""
    model = Model(part)
    model.put(state)
    cost = 0
    for event in course:
        assert event in model.events(), (part, state, course)
        cost += part[0] if model.day(event) == "" else 0
    return model.state(), cost


def all_rows(part):
    """Return all states of a part as in 2.1, whether they result from a course or not."""
    price, lives, most, terms = part
    rows = [()]
    for payer, days, kinds, renewal, claims, sale in terms:
        uses = [-1] if claims == 0 else range(claims + 1)
        rows = [row + ((left, use),) for row in rows for left in range(days + 1) for use in uses]
    ages = most if most else max(least for kind, least in lives)
    return [(age, row) for age in range(ages + 1) for row in rows]


def choices_from(part, state):
    """Return for each event that can follow the list of (number, cost, state after the day).

    The number is that of the term that pays, None for the owner, who comes last.
    """
    found = {}
    model = Model(part)
    model.put(state)
    for event in model.events():
        model.put(state)
        numbers = model.asked(event) + [None]
        found[event] = []
        for number in numbers if event != "" else []:
            model.put(state)
            model.pay(number)
            model.end()
            found[event].append((number, part[0] if number is None else 0, model.state()))
        if event == "":
            model.day("")
            found[""].append((None, 0, model.state()))
    return found


def choice_closure(part, state):
    """Return the set of all states that can be reached from a state by choosing."""
    known = {state}
    waiting = [state]
    while waiting:
        for options in choices_from(part, waiting.pop()).values():
            for number, cost, after in options:
                if after not in known:
                    known.add(after)
                    waiting.append(after)
    return known


def sure(part, state, many, known):
    """Return the sure cost of so many days in a state; known keeps what was found before."""
    if many == 0:
        return 0
    if (state, many) not in known:
        known[state, many] = max(
            min(cost + sure(part, after, many - 1, known) for number, cost, after in options)
            for options in choices_from(part, state).values()
        )
    return known[state, many]


def common_days(one, other, many):
    """Yield for 0 to so many days a dict from (state, state, difference) to the first course.

    The difference is by how much the courses that lead there cost more with one.
    """
    level = {(beginning(one), beginning(other), 0): ()}
    after_one, after_other = {}, {}
    for day in range(many + 1):
        yield level
        following = {}
        for (first, second, difference), course in level.items():
            if first not in after_one:
                after_one[first] = days_from(one, first)
            if second not in after_other:
                after_other[second] = days_from(other, second)
            for (event, payer, left), (same, payer_two, right) in zip(
                after_one[first], after_other[second]
            ):
                assert event == same
                change = (one[0] if payer == "" else 0) - (other[0] if payer_two == "" else 0)
                place = (left, right, difference + change)
                longer = course + (event,)
                if place not in following or longer < following[place]:
                    following[place] = longer
        level = following


def pair_moves(one, other):
    """Return a dict from each pair of states to the list of (difference, pair) that follow."""
    table = {}
    waiting = [(beginning(one), beginning(other))]
    while waiting:
        pair = waiting.pop()
        if pair in table:
            continue
        table[pair] = [
            ((one[0] if payer == "" else 0) - (other[0] if payer_two == "" else 0), (left, right))
            for (event, payer, left), (same, payer_two, right) in zip(
                days_from(one, pair[0]), days_from(other, pair[1])
            )
        ]
        waiting += [after for change, after in table[pair]]
    return table


def greatest_gain(one, other):
    """Return the greatest difference of a course, None if there is none, day by day."""
    table = pair_moves(one, other)
    best = {(beginning(one), beginning(other)): 0}
    for day in range(len(table) + 1):
        better = dict(best)
        for pair, gain in best.items():
            for change, after in table[pair]:
                if gain + change > better.get(after, -(10 ** 9)):
                    better[after] = gain + change
        if better == best:
            return max(best.values())
        best = better
    return None
