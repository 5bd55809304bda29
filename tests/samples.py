"""Values that several test files use."""

import random

PUMP = (
    5,
    (("a", 1), ("b", 0)),
    3,
    (("maker", 2, "ab", "rest", 0, False), ("seller", 3, "a", "anew", 1, True)),
)
BARE = (5, (("a", 1), ("b", 0)), 3, ())

# The greatest part by every number, and the least one.
WIDE = (
    20,
    (("a", 6), ("b", 6), ("c", 6)),
    8,
    (
        ("zzzzzz", 6, "abc", "anew", 2, True),
        ("b", 6, "abc", "rest", 2, False),
        ("c", 6, "", "rest", 0, True),
    ),
)
NARROW = (1, (("c", 0),), 0, ())

# Parts with exactly 400 states, with 401, and with many more.
FULL = (
    10,
    (("a", 0), ("b", 5), ("c", 1)),
    5,
    (
        ("xx", 4, "bc", "anew", 2, False),
        ("yyyyy", 5, "ac", "anew", 2, False),
        ("zz", 5, "a", "anew", 2, True),
    ),
)
OVER = (
    3,
    (("b", 1), ("c", 0)),
    4,
    (
        ("xxxxxx", 2, "c", "rest", 2, False),
        ("yy", 5, "c", "anew", 2, False),
        ("z", 5, "ab", "anew", 1, False),
    ),
)
HUGE = (
    20,
    (("a", 0), ("b", 0), ("c", 1)),
    7,
    (
        ("x", 6, "a", "rest", 2, True),
        ("yyyyy", 6, "ac", "anew", 1, True),
        ("zzzzzz", 5, "bc", "anew", 2, False),
    ),
)
# Parts with exactly 400 and with 401 states that can be reached by choosing.
CHOOSE = (
    15,
    (("a", 1), ("c", 1)),
    6,
    (
        ("x", 5, "a", "anew", 2, True),
        ("y", 5, "abc", "anew", 2, True),
        ("z", 3, "ab", "anew", 2, True),
    ),
)
CHOOSE_OVER = (
    14,
    (("a", 0), ("b", 1)),
    3,
    (
        ("x", 6, "ab", "rest", 1, True),
        ("y", 3, "ac", "anew", 1, True),
        ("z", 6, "bc", "anew", 2, False),
    ),
)
# Pairs of parts with exactly 2000 and with 2001 pairs of states.
PAIR = (
    (20, (("b", 1), ("c", 1)), 5, (
        ("x", 6, "bc", "anew", 2, False), ("y", 6, "c", "rest", 0, True))),
    (15, (("b", 1), ("c", 1)), 5, (
        ("x", 6, "c", "anew", 2, False), ("y", 5, "b", "rest", 2, True),
        ("z", 6, "abc", "anew", 1, False))),
)
PAIR_OVER = (
    (9, (("a", 1), ("c", 1)), 6, (
        ("x", 6, "bc", "rest", 2, False), ("y", 5, "abc", "anew", 2, False))),
    (12, (("a", 1), ("c", 1)), 6, (
        ("x", 4, "c", "rest", 2, True), ("y", 4, "a", "anew", 1, True),
        ("z", 6, "c", "anew", 2, True))),
)
# Pairs of parts that part after 60, 61 and 62 days.
PARTING = [
    ((19, (("a", 1),), 3, (
        ("x", 3, "abc", "anew", 2, True), ("y", 5, "ac", "anew", 2, False))),
     (18, (("a", 1),), 3, ())),
    ((14, (("a", 4),), 4, (("x", 6, "ab", "rest", 0, False),)),
     (13, (("a", 4),), 4, (("x", 1, "ab", "rest", 1, False),))),
    ((20, (("a", 1),), 1, (("x", 4, "abc", "rest", 0, False),)),
     (19, (("a", 1),), 1, ())),
]
# A part with states that take 33 days to reach.
LONG = (
    1,
    (("a", 5), ("b", 5), ("c", 6)),
    8,
    (
        ("z", 6, "ab", "anew", 2, False),
        ("y", 6, "bc", "anew", 2, True),
        ("x", 4, "ac", "anew", 0, True),
    ),
)
# A part of which the payer pays all faults, for ever.
KEPT = (7, (("a", 0), ("b", 3)), 4, (("maker", 5, "ab", "anew", 0, False),))

# Parts that can not be compared with PUMP.
OTHERS = [
    NARROW, KEPT, (5, (("a", 1),), 3, ()), (5, (("a", 1), ("b", 0)), 2, ()),
    (5, (("a", 1), ("b", 0)), 0, ()), (5, (("a", 1), ("b", 1)), 3, PUMP[3]),
    (5, (("a", 1), ("c", 0)), 3, ()), (5, (("a", 1), ("b", 0), ("c", 6)), 3, ()),
]

DEEP = ((((((),),),),),)
DEEP_LIST = [[[[[[]]]]]]

# None of these is a term, a part, a state of PUMP, a kind or an event of PUMP.
ODD = [
    None, True, False, 0, 1, -1, 2, 10 ** 30, "ab", "abc", "A", "d", " ", ".", "aa", "\u00e4",
    "maker", [], [""], ["a"], [[]], [1, 2], (), ((),), ("a",), (1,), (1, 2), (None,) * 6,
    ("a", 1, "a", "anew"), (1, 2, 3, 4, 5, 6), DEEP, DEEP_LIST, ((), [], ("", None, [True])),
    "abcdef", "abcd", list(PUMP), [PUMP], (PUMP,),
]


def random_terms(source, many):
    """Return so many terms with different payers."""
    kinds = ["", "a", "b", "c", "ab", "ac", "bc", "abc"]
    return tuple(
        (
            "xyz"[number] * source.randint(1, 6),
            source.randint(1, 6),
            source.choice(kinds),
            source.choice(["anew", "rest"]),
            source.randint(0, 2),
            source.choice([False, True]),
        )
        for number in range(many)
    )


def random_part(source):
    """Return some part."""
    kinds = sorted(source.sample("abc", source.randint(1, 3)))
    lives = tuple((kind, source.randint(0, 6)) for kind in kinds)
    least = min(least for kind, least in lives)
    most = source.choice([0] + list(range(max(1, least), 9)))
    return (source.randint(1, 20), lives, most, random_terms(source, source.randint(0, 3)))


def small_part(source):
    """Return some part with short days and lives, so that little happens late."""
    kinds = sorted(source.sample("abc", source.randint(1, 2)))
    lives = tuple((kind, source.randint(0, 2)) for kind in kinds)
    least = min(least for kind, least in lives)
    most = source.choice([0] + list(range(max(1, least), 5)))
    terms = tuple(
        term[:1] + (source.randint(1, 3),) + term[2:]
        for term in random_terms(source, source.randint(0, 3))
    )
    return (source.randint(1, 20), lives, most, terms)


def small_parts(seed, many):
    """Return so many small parts, the same ones for the same seed."""
    source = random.Random(seed)
    return [small_part(source) for _ in range(many)]


def random_parts(seed, many):
    """Return so many parts, the same ones for the same seed."""
    source = random.Random(seed)
    return [random_part(source) for _ in range(many)]


def pairs_of(seed, many):
    """Return pairs of small parts with the same lives and most."""
    source = random.Random(seed)
    found = []
    for part in small_parts(seed, many):
        terms = tuple(
            term[:1] + (source.randint(1, 3),) + term[2:]
            for term in random_terms(source, source.randint(0, 3))
        )
        price = source.choice([part[0], source.randint(1, 20)])
        found.append((part, (price,) + part[1:3] + (terms,)))
    return found
