"""Checks of plain values: numbers, tuples, kinds and payers (0.3, 0.4)."""

from coverterms.errors import InvalidNumber

LETTERS = "abcdefghijklmnopqrstuvwxyz"
KINDS = ("a", "b", "c")
LONGEST_WORD = 6


def is_number(candidate, least, greatest):
    """Return whether candidate is an integer from least to greatest."""
    # Python counts True and False as integers; the document does not.
    if isinstance(candidate, bool) or not isinstance(candidate, int):
        return False
    return least <= candidate <= greatest


def check_number(candidate, least, greatest):
    """Raise InvalidNumber if candidate is not an integer from least to greatest."""
    if not is_number(candidate, least, greatest):
        raise InvalidNumber("not an integer in its range")


def is_tuple(candidate, least, greatest):
    """Return whether candidate is a tuple of least to greatest items."""
    return isinstance(candidate, tuple) and least <= len(candidate) <= greatest


def is_kind(candidate):
    """Return whether candidate is a kind of fault."""
    return candidate in KINDS


def is_kinds(candidate):
    """Return whether candidate is an ascending string of different kinds."""
    if not isinstance(candidate, str):
        return False
    return candidate == "".join([kind for kind in KINDS if kind in candidate])


def is_word(candidate):
    """Return whether candidate is a string of 1 to 6 letters a to z, as payers and names are."""
    if not isinstance(candidate, str) or not 1 <= len(candidate) <= LONGEST_WORD:
        return False
    return all([letter in LETTERS for letter in candidate])
