"""Two parts with the same courses, and what each course costs with them (9.1 to 9.3)."""

from coverterms.courses import LONGEST_COURSE
from coverterms.errors import OtherLives, TooLong
from coverterms.graphs import explored, most_paid
from coverterms.parts import check_part, with_term
from coverterms.rules import fresh_state, moves_by_order

MOST_PAIRS = 2000


def check_parts(one, other):
    """Raise InvalidPart or OtherLives if the two are not parts that can be compared."""
    check_part(one)
    check_part(other)
    price, lives, most, terms = one
    other_price, other_lives, other_most, other_terms = other
    if lives != other_lives or most != other_most:
        raise OtherLives("the lives or most of the parts differ")


def moves_of_pair(one, other, pair):
    """Return the moves of a pair of states; what is paid is how much more one costs."""
    state, other_state = pair
    return [
        (event, paid - other_paid, (after, other_after))
        for (event, paid, after), (other_event, other_paid, other_after) in zip(
            moves_by_order(one, state), moves_by_order(other, other_state)
        )
    ]


def moves_of_pairs(one, other):
    """Return the moves of the graph of the pairs of states that result from common courses."""
    check_parts(one, other)
    beginning = (fresh_state(one), fresh_state(other))
    pairs, moves = explored(beginning, lambda pair: moves_of_pair(one, other, pair), MOST_PAIRS)
    return moves


def has_circle(sources):
    """Return whether some node is its own source, or that of its source, and so on.

    A node without a source has None.
    """
    seen_from = [None for source in sources]
    for first in range(len(sources)):
        node = first
        while node is not None and seen_from[node] is None:
            seen_from[node] = first
            node = sources[node]
        if node is not None and seen_from[node] == first:
            return True
    return False


def most_gained(moves):
    """Return the most that days from the beginning add up to, None if there is no bound.

    The sources tell from which node the best known days come. They go in a circle only if
    this circle adds something, and while they do not, what is known is the sum of days that
    pass no node twice; so without a bound they come to a circle.
    """
    gains = [None for row in moves]
    sources = [None for row in moves]
    gains[0] = 0
    changed = [0]
    while len(changed) > 0:
        better = {}
        for number in changed:
            for event, paid, after in moves[number]:
                gain = gains[number] + paid
                if gains[after] is None or gain > gains[after]:
                    gains[after] = gain
                    sources[after] = number
                    better[after] = True
        if has_circle(sources):
            return None
        changed = list(better)
    return max(gains)


def never_dearer(one, other):
    """Return whether no course, of any length, costs more with one than with other."""
    return most_gained(moves_of_pairs(one, other)) == 0


def parting_course(one, other):
    """Return the first of the shortest courses that cost more with one than with other."""
    moves = moves_of_pairs(one, other)
    if most_gained(moves) == 0:
        return None
    rows = most_paid(moves, LONGEST_COURSE, 1)
    lengths = [many for many, row in enumerate(rows) if row[0] > 0]
    if len(lengths) == 0:
        raise TooLong("the shortest such courses have more days than a course")
    return first_gaining(moves, rows[:lengths[0]])


def first_gaining(moves, rows):
    """Return the first course that gains, with as many days as there are rows.

    rows are the most that days from each node gain, for no day, one day, and so on.
    """
    course = ()
    gained = 0
    number = 0
    for last in rows[::-1]:
        good = [move for move in moves[number] if gained + move[1] + last[move[2]] > 0]
        event, paid, number = good[0]
        course += (event,)
        gained += paid
    return course


def as_dear(one, other):
    """Return whether each course costs the same with both parts."""
    moves = moves_of_pairs(one, other)
    # Each day that can come is the last one of some course.
    return all([paid == 0 for row in moves for event, paid, after in row])


def greatest_difference(one, other):
    """Return by how much a course costs more with one at most, None if there is no bound."""
    return most_gained(moves_of_pairs(one, other))


def without_kind(term, kind):
    """Return the term without one of its kinds."""
    payer, days, kinds, renewal, claims, sale = term
    return (payer, days, kinds.replace(kind, ""), renewal, claims, sale)


def idle_terms(part):
    """Return the list of the payers without whose term the part is as dear as before."""
    check_part(part)
    price, lives, most, terms = part
    return [
        term[0]
        for number, term in enumerate(terms)
        if as_dear(part, with_term(part, number, ()))
    ]


def idle_kinds(part):
    """Return the list of the (number, kind) without which the part is as dear as before."""
    check_part(part)
    price, lives, most, terms = part
    return [
        (number, kind)
        for number, term in enumerate(terms)
        for kind in term[2]
        if as_dear(part, with_term(part, number, (without_kind(term, kind),)))
    ]
