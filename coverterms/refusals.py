"""Why payers can't be asked, and for how long they can (16.1, 16.2)."""

from coverterms.days import check_kind, check_state
from coverterms.parts import check_term_number
from coverterms.rules import askable, state_after_quiet


def reasons(part, state, number, kind):
    """Return the ascending list of the words that say why a payer can't be asked."""
    check_state(part, state)
    check_term_number(part, number)
    check_kind(kind)
    price, lives, most, terms = part
    age, rows = state
    payer, days, kinds, renewal, claims, sale = terms[number]
    left, claims_left = rows[number]
    found = []
    if claims_left == 0:
        found.append("claims")
    if left == 0:
        found.append("days")
    if kind not in kinds:
        found.append("kind")
    return found


def covered(part, state):
    """Return the ascending list of the kinds of lives for which some payer can be asked."""
    price, lives, most, terms = part
    return [kind for kind, least in lives if len(askable(part, state, kind)) > 0]


def uncovered(part, state):
    """Return the ascending list of the kinds of lives for which no payer can be asked."""
    check_state(part, state)
    price, lives, most, terms = part
    return [kind for kind, least in lives if len(askable(part, state, kind)) == 0]


def closing(part, state):
    """Return the ascending list of the kinds that are covered now, but not after a quiet day."""
    check_state(part, state)
    still = covered(part, state_after_quiet(part, state))
    return [kind for kind in covered(part, state) if kind not in still]


def days_open(part, state, kind):
    """Return on how many quiet days, from the present one on, some payer could be asked."""
    check_state(part, state)
    check_kind(kind)
    age, rows = state
    return max([rows[number][0] for number in askable(part, state, kind)], default=0)
