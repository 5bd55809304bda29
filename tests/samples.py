"""Values that several test files use."""

import random

PUMP = (
    5,
    (("a", 1), ("b", 0)),
    3,
    (("maker", 2, "ab", "rest", 0, False), ("seller", 3, "a", "anew", 1, True)),
)
BARE = (5, (("a", 1), ("b", 0)), 3, ())

# The greatest part by every number, and the least one.
WIDE = (
    20,
    (("a", 6), ("b", 6), ("c", 6)),
    8,
    (
        ("zzzzzz", 6, "abc", "anew", 2, True),
        ("b", 6, "abc", "rest", 2, False),
        ("c", 6, "", "rest", 0, True),
    ),
)
NARROW = (1, (("c", 0),), 0, ())

DEEP = ((((((),),),),),)
DEEP_LIST = [[[[[[]]]]]]

# None of these is a term, a part, a state of PUMP, a kind or an event of PUMP.
ODD = [
    None, True, False, 0, 1, -1, 2, 10 ** 30, "ab", "abc", "A", "d", " ", ".", "aa", "\u00e4",
    "maker", [], [""], ["a"], [[]], [1, 2], (), ((),), ("a",), (1,), (1, 2), (None,) * 6,
    ("a", 1, "a", "anew"), (1, 2, 3, 4, 5, 6), DEEP, DEEP_LIST, ((), [], ("", None, [True])),
    "abcdef", "abcd", list(PUMP), [PUMP], (PUMP,),
]


def random_terms(source, many):
    """Return so many terms with different payers."""
    kinds = ["", "a", "b", "c", "ab", "ac", "bc", "abc"]
    return tuple(
        (
            "xyz"[number] * source.randint(1, 6),
            source.randint(1, 6),
            source.choice(kinds),
            source.choice(["anew", "rest"]),
            source.randint(0, 2),
            source.choice([False, True]),
        )
        for number in range(many)
    )


def random_part(source):
    """Return some part."""
    kinds = sorted(source.sample("abc", source.randint(1, 3)))
    lives = tuple((kind, source.randint(0, 6)) for kind in kinds)
    least = min(least for kind, least in lives)
    most = source.choice([0] + list(range(max(1, least), 9)))
    return (source.randint(1, 20), lives, most, random_terms(source, source.randint(0, 3)))


def random_parts(seed, many):
    """Return so many parts, the same ones for the same seed."""
    source = random.Random(seed)
    return [random_part(source) for _ in range(many)]
