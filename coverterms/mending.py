"""The least changes of terms after which nothing is left to the owner (11.1, 11.2)."""

from coverterms.checks import is_tuple
from coverterms.days import check_kind
from coverterms.errors import InvalidTerms
from coverterms.gaps import can_be_left
from coverterms.parts import check_part, check_term_number, is_part, is_term, with_term

MOST_DAYS = 6
MOST_OFFERS = 4


def with_days(part, number, days):
    """Return the part with other days of the term with the number."""
    price, lives, most, terms = part
    payer, old_days, kinds, renewal, claims, sale = terms[number]
    return with_term(part, number, ((payer, days, kinds, renewal, claims, sale),))


def least_days(part, number, kind):
    """Return the least days of the term with which no fault of the kind is left."""
    check_part(part)
    check_term_number(part, number)
    check_kind(kind)
    # All numbers of days are tried, since TooLarge counts for each of them.
    enough = [
        days
        for days in range(1, MOST_DAYS + 1)
        if not can_be_left(with_days(part, number, days), kind)
    ]
    return enough[0] if len(enough) > 0 else None


def with_offers(part, offers, numbers):
    """Return the part with the offered terms of the numbers behind its own."""
    price, lives, most, terms = part
    return (price, lives, most, terms + tuple([offers[number] for number in numbers]))


def ascending_tuples(many):
    """Return the ascending tuples of numbers below many, the shortest first, then in order."""
    found = []
    level = [()]
    while len(level) > 0:
        found.extend(level)
        level = [
            numbers + (number,)
            for numbers in level
            for number in range(many)
            if number > max(numbers, default=-1)
        ]
    return found


def fewest_added(part, kind, offers):
    """Return the first of the fewest offers with which no fault of the kind is left."""
    check_part(part)
    check_kind(kind)
    if not is_tuple(offers, 0, MOST_OFFERS) or not all([is_term(term) for term in offers]):
        raise InvalidTerms("not a tuple of at most 4 terms")
    for numbers in ascending_tuples(len(offers)):
        changed = with_offers(part, offers, numbers)
        if is_part(changed) and not can_be_left(changed, kind):
            return numbers
    return None
