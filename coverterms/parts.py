"""Parts and their terms (1.1, 1.2)."""

from coverterms.checks import check_number, is_kind, is_kinds, is_number, is_tuple, is_word
from coverterms.errors import InvalidPart, InvalidTerms

RENEWALS = ("anew", "rest")


def is_term(candidate):
    """Return whether candidate is a term."""
    if not is_tuple(candidate, 6, 6):
        return False
    payer, days, kinds, renewal, claims, sale = candidate
    return (
        is_word(payer)
        and is_number(days, 1, 6)
        and is_kinds(kinds)
        and renewal in RENEWALS
        and is_number(claims, 0, 2)
        and isinstance(sale, bool)
    )


def is_part(candidate):
    """Return whether candidate is a part."""
    if not is_tuple(candidate, 4, 4):
        return False
    price, lives, most, terms = candidate
    return (
        is_number(price, 1, 20)
        and is_lives(lives)
        and is_most(most, lives)
        and is_terms(terms)
    )


def is_lives(candidate):
    """Return whether candidate is the lives of a part."""
    if not is_tuple(candidate, 1, 3):
        return False
    if not all([is_life(life) for life in candidate]):
        return False
    # With different kinds, the lives ascend exactly if their kinds do.
    return is_kinds("".join([kind for kind, least in candidate]))


def is_life(candidate):
    """Return whether candidate is a kind with its least age."""
    if not is_tuple(candidate, 2, 2):
        return False
    kind, least = candidate
    return is_kind(kind) and is_number(least, 0, 6)


def is_most(candidate, lives):
    """Return whether candidate is 0 or a greatest age that some life reaches."""
    lowest = min([least for kind, least in lives])
    return is_number(candidate, 0, 0) or is_number(candidate, lowest, 8)


def is_terms(candidate):
    """Return whether candidate is the terms of a part."""
    if not is_tuple(candidate, 0, 3):
        return False
    if not all([is_term(term) for term in candidate]):
        return False
    return len({term[0] for term in candidate}) == len(candidate)


def check_part(part):
    """Raise InvalidPart if part is not a part."""
    if not is_part(part):
        raise InvalidPart("not a part")


def check_term_number(part, number):
    """Raise InvalidNumber if number is not the number of a term of the part."""
    price, lives, most, terms = part
    check_number(number, 0, len(terms) - 1)


def payers(part):
    """Return the list of the payers of the terms, in their order."""
    check_part(part)
    price, lives, most, terms = part
    return [term[0] for term in terms]


def with_terms(part, terms):
    """Return the part with other terms."""
    check_part(part)
    price, lives, most, old_terms = part
    changed = (price, lives, most, terms)
    if not is_part(changed):
        raise InvalidTerms("no part has these terms")
    return changed


def with_term(part, number, changed):
    """Return the part with a tuple of terms in place of the term with the number."""
    price, lives, most, terms = part
    return (price, lives, most, terms[:number] + changed + terms[number + 1:])
