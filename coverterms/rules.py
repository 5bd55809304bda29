"""What can happen on a day and what it leads to (0.7 to 0.10).

The functions here expect parts, states and events that have been checked.
A term is told by its number; the owner, who has none, by None.
"""

UNLIMITED = -1


def greatest_age(part):
    """Return the greatest age that the part can have."""
    price, lives, most, terms = part
    if most > 0:
        return most
    return max([least for kind, least in lives])


def fresh_row(term):
    """Return the days and claims left of a term in the new state."""
    payer, days, kinds, renewal, claims, sale = term
    if claims == 0:
        return (days, UNLIMITED)
    return (days, claims)


def fresh_state(part):
    """Return the new state of the part."""
    price, lives, most, terms = part
    return (0, tuple([fresh_row(term) for term in terms]))


def possible_events(part, state):
    """Return the ascending list of the events that are possible in the state."""
    price, lives, most, terms = part
    age, rows = state
    quiet = [""] if most == 0 or age < most else []
    return quiet + [kind for kind, least in lives if age >= least]


def can_be_asked(term, row, kind):
    """Return whether the payer of a term can be asked at a fault of the kind."""
    payer, days, kinds, renewal, claims, sale = term
    left, claims_left = row
    return left > 0 and claims_left != 0 and kind in kinds


def askable(part, state, kind):
    """Return the ascending list of the numbers of the terms that can be asked."""
    price, lives, most, terms = part
    age, rows = state
    return [
        number
        for number, (term, row) in enumerate(zip(terms, rows))
        if can_be_asked(term, row, kind)
    ]


def number_by_order(part, state, kind):
    """Return the number of the term that pays by the order, None for the owner."""
    numbers = askable(part, state, kind)
    return numbers[0] if len(numbers) > 0 else None


def payer_of(part, number):
    """Return the payer of the term with the number, "" for the owner."""
    price, lives, most, terms = part
    return "" if number is None else terms[number][0]


def payer_by_order(part, state, event):
    """Return who pays on a day with an event, "" for the owner and if there is no fault."""
    return "" if event == "" else payer_of(part, number_by_order(part, state, event))


def row_after_claim(term, row):
    """Return the days and claims left of a term after its payer has paid."""
    payer, days, kinds, renewal, claims, sale = term
    left, claims_left = row
    if renewal == "anew":
        left = days
    if claims_left != UNLIMITED:
        claims_left -= 1
    return (left, claims_left)


def rows_after_claim(part, rows, number):
    """Return the rows after the payer of the term with the number has paid."""
    price, lives, most, terms = part
    paid = row_after_claim(terms[number], rows[number])
    return rows[:number] + (paid,) + rows[number + 1:]


def rows_after_sale(part, rows):
    """Return the rows after the owner has bought the part."""
    price, lives, most, terms = part
    changed = []
    for term, row in zip(terms, rows):
        payer, days, kinds, renewal, claims, sale = term
        changed.append(fresh_row(term) if sale else row)
    return tuple(changed)


def state_at_end_of_day(part, age, rows):
    """Return the state at the end of a day on which age and rows have become these."""
    aged = min(age + 1, greatest_age(part))
    return (aged, tuple([(max(0, left - 1), claims_left) for left, claims_left in rows]))


def state_after_fault(part, state, number):
    """Return the state after a day with a fault that the told one pays."""
    age, rows = state
    if number is None:
        return state_at_end_of_day(part, 0, rows_after_sale(part, rows))
    return state_at_end_of_day(part, 0, rows_after_claim(part, rows, number))


def state_after_quiet(part, state):
    """Return the state after a day without a fault, whether it is possible or not."""
    age, rows = state
    return state_at_end_of_day(part, age, rows)


def state_after_day(part, state, event, number):
    """Return the state after a day with an event; the told one pays if it is a fault."""
    if event == "":
        return state_after_quiet(part, state)
    return state_after_fault(part, state, number)


def state_by_order(part, state, event):
    """Return the state after a day with an event, by the order."""
    number = None if event == "" else number_by_order(part, state, event)
    return state_after_day(part, state, event, number)


def paid_by_order(part, state, event):
    """Return what the owner pays on a day with an event, by the order."""
    price, lives, most, terms = part
    left = event != "" and number_by_order(part, state, event) is None
    return price if left else 0


def moves_by_order(part, state):
    """Return the (event, paid, state after the day) of all days that can come, ascending."""
    return [
        (event, paid_by_order(part, state, event), state_by_order(part, state, event))
        for event in possible_events(part, state)
    ]


def state_after_days(part, state, course):
    """Return the state after events one after the other, None if one is not possible."""
    for event in course:
        if event not in possible_events(part, state):
            return None
        state = state_by_order(part, state, event)
    return state


def paid_on_days(part, state, course):
    """Return what the owner pays for possible events one after the other."""
    paid = 0
    for event in course:
        paid += paid_by_order(part, state, event)
        state = state_by_order(part, state, event)
    return paid
