"""Text formats of parts and courses (12.1, 12.2)."""

from coverterms.courses import check_course, is_course
from coverterms.errors import ParseError
from coverterms.parts import check_part, is_part

NO_KINDS = "-"
QUIET = "."
SALE = "sale"
KEEP = "keep"
GREATEST_NUMBER = 20


def format_part(part):
    """Return the format of the part."""
    check_part(part)
    price, lives, most, terms = part
    lines = [f"part {price} {most}"]
    lines.extend([f"life {kind} {least}" for kind, least in lives])
    lines.extend([format_term(term) for term in terms])
    return "".join([line + "\n" for line in lines])


def format_term(term):
    """Return the line of a term."""
    payer, days, kinds, renewal, claims, sale = term
    written = NO_KINDS if kinds == "" else kinds
    ending = SALE if sale else KEEP
    return f"term {payer} {days} {written} {renewal} {claims} {ending}"


def parse_part(text):
    """Return the part whose format is the text."""
    check_text(text)
    rows = [line.split(" ") for line in text.split("\n")]
    head, price, most = row_of(rows[0], 3)
    lives = [read_life(row) for row in rows if row[0] == "life"]
    terms = [read_term(row) for row in rows if row[0] == "term"]
    part = (read_number(price), tuple(lives), read_number(most), tuple(terms))
    # What was passed over while reading shows here: no other text is the format of the part.
    if not is_part(part) or format_part(part) != text:
        raise ParseError("not the format of a part")
    return part


def check_text(text):
    """Raise ParseError if text is not a string."""
    if not isinstance(text, str):
        raise ParseError("not a string")


def row_of(row, many):
    """Return the row of words; raise ParseError if it does not have so many."""
    if len(row) != many:
        raise ParseError("a line with too few or too many words")
    return row


def read_life(row):
    """Return the life that a row of words tells of."""
    head, kind, least = row_of(row, 3)
    return (kind, read_number(least))


def read_term(row):
    """Return the term that a row of words tells of."""
    head, payer, days, kinds, renewal, claims, ending = row_of(row, 7)
    read = "" if kinds == NO_KINDS else kinds
    return (payer, read_number(days), read, renewal, read_number(claims), ending == SALE)


def read_number(word):
    """Return the number that is written as the word, None if no part has such a number."""
    for number in range(GREATEST_NUMBER + 1):
        if word == str(number):
            return number
    return None


def format_course(part, course):
    """Return the format of the course."""
    check_course(part, course)
    return "".join([QUIET if event == "" else event for event in course])


def parse_course(part, text):
    """Return the course of the part whose format is the text."""
    check_part(part)
    check_text(text)
    course = tuple(["" if sign == QUIET else sign for sign in text])
    if not is_course(part, course):
        raise ParseError("not the format of a course of the part")
    return course
