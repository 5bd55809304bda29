"""The greatest costs with few faults, of one part and of several (15.1, 15.2)."""

from coverterms.checks import check_number, is_tuple
from coverterms.errors import InvalidGoods
from coverterms.graphs import graph_by_order
from coverterms.parts import check_part, is_part

MOST_DAYS = 30
MOST_FAULTS = 30
MOST_COST = 600
MOST_PARTS = 4


def costs_by_faults(part, many):
    """Return a dict from numbers of faults to the greatest cost of so many days with just them."""
    nodes, moves = graph_by_order(part)
    level = {(0, 0): 0}
    for _ in range(many):
        following = {}
        for (number, faults), cost in level.items():
            for event, paid, after in moves[number]:
                place = (after, faults if event == "" else faults + 1)
                following[place] = max(cost + paid, following.get(place, 0))
        level = following
    costs = {}
    for (number, faults), cost in level.items():
        costs[faults] = max(cost, costs.get(faults, 0))
    return costs


def greatest_costs(part, many):
    """Return the greatest costs of so many days with at most 0 to 30 faults.

    The list has None where there are no courses with so few faults.
    """
    exact = costs_by_faults(part, many)
    greatest = []
    known = []
    for faults in range(MOST_FAULTS + 1):
        if faults in exact:
            known.append(exact[faults])
        greatest.append(max(known, default=None))
    return greatest


def greatest_with(part, many, faults):
    """Return the greatest cost of so many days with at most so many faults, None if none has."""
    check_part(part)
    check_number(many, 0, MOST_DAYS)
    check_number(faults, 0, MOST_FAULTS)
    return greatest_costs(part, many)[faults]


def fewest_faults(part, many):
    """Return the least number of faults of a course with so many days."""
    check_part(part)
    check_number(many, 0, MOST_DAYS)
    return min(list(costs_by_faults(part, many)))


def faults_for(part, many, cost):
    """Return the least number of faults with which so many days cost so much, None if none do."""
    check_part(part)
    check_number(many, 0, MOST_DAYS)
    check_number(cost, 0, MOST_COST)
    costs = costs_by_faults(part, many)
    enough = [faults for faults in costs if costs[faults] >= cost]
    return min(enough, default=None)


def are_goods(candidate):
    """Return whether candidate is goods."""
    return is_tuple(candidate, 1, MOST_PARTS) and all([is_part(part) for part in candidate])


def tables_of(goods, many, faults):
    """Return the greatest costs of each part; raise InvalidGoods, InvalidNumber or TooLarge."""
    if not are_goods(goods):
        raise InvalidGoods("not goods")
    check_number(many, 0, MOST_DAYS)
    check_number(faults, 0, MOST_FAULTS)
    return [greatest_costs(part, many) for part in goods]


def shares_of(table, rest, faults):
    """Return the (sum, share of the faults) of all ways to divide them, the least share first.

    The share comes from the table, what is left of the faults from the rest.
    """
    return [
        (table[share] + rest[faults - share], share)
        for share in range(faults + 1)
        if table[share] is not None and rest[faults - share] is not None
    ]


def greatest_sums(tables):
    """Return for each table the greatest sums of it and those behind it, with 0 to 30 faults.

    One more list comes last, for no tables at all.
    """
    sums = [[0 for faults in range(MOST_FAULTS + 1)]]
    for table in tables[::-1]:
        ways = [shares_of(table, sums[-1], faults) for faults in range(MOST_FAULTS + 1)]
        sums.append([max([total for total, share in way], default=None) for way in ways])
    return sums[::-1]


def greatest_of_all(goods, many, faults):
    """Return the greatest sum of the costs of the parts, with at most so many faults in all."""
    tables = tables_of(goods, many, faults)
    return greatest_sums(tables)[0][faults]


def worst_shares(goods, many, faults):
    """Return the first numbers of faults with which the parts cost the most together."""
    tables = tables_of(goods, many, faults)
    sums = greatest_sums(tables)
    if sums[0][faults] is None:
        return None
    shares = ()
    left = faults
    for table, greatest, rest in zip(tables, sums, sums[1:]):
        good = [share for total, share in shares_of(table, rest, left) if total == greatest[left]]
        shares += (good[0],)
        left -= good[0]
    return shares
