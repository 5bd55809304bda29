"""Wrong arguments, and a check of the exceptions that they raise."""

import copy

from tests.samples import BARE, DEEP, DEEP_LIST, ODD, PUMP

BAD_PARTS = ODD + [list(PUMP), PUMP[:3], (True,) + PUMP[1:], PUMP[:3] + ([],), BARE + ((),)]
BAD_STATES = ODD + [
    [0, ((2, -1), (3, 1))], (0, [(2, -1), (3, 1)]), (0, ([2, -1], (3, 1))), (0,), (0, ()),
    (0, ((2, -1), (3, 1)), 0), (0, ((2, -1),)), (0, ((2, -1), (3, 1), (0, 0))),
    (0, ((2,), (3, 1))), (0, ((2, -1, 0), (3, 1))), (0, ((2, -1), (3,))), (0, (2, -1, 3, 1)),
    (True, ((2, -1), (3, 1))), (False, ((2, -1), (3, 1))), (None, ((2, -1), (3, 1))),
    ("0", ((2, -1), (3, 1))), (0, ((True, -1), (3, 1))), (0, ((False, -1), (3, 1))),
    (0, ((2, -1), (3, True))), (0, ((2, -1), (3, False))), (0, ((2, None), (3, 1))),
    (0, ((2, -1), ("3", 1))), (0, None), (0, "ab"), (0, (None, None)), (0, DEEP), (0, DEEP_LIST),
    (DEEP, DEEP), (((2, -1), (3, 1)), 0), (-1, ((2, -1), (3, 1))), (4, ((2, -1), (3, 1))),
    (10 ** 30, ((2, -1), (3, 1))), (0, ((3, -1), (3, 1))), (0, ((-1, -1), (3, 1))),
    (0, ((2, 0), (3, 1))), (0, ((2, 1), (3, 1))), (0, ((2, -2), (3, 1))), (0, ((2, -1), (4, 1))),
    (0, ((2, -1), (3, 2))), (0, ((2, -1), (3, -1))), (0, ((3, 1), (2, -1))), (0, ("ab", "cd")),
]
BAD_COURSES = [value for value in ODD if value != ()] + [
    ["", "b"], ("a",), ("c",), ("", "c"), ("", "", "", ""), ("b", "a", "b", "c"),
    ("bb",), ("ab",), ("", "ab"), ("", "d"), ("", None), ("", 0), ("", False), ("", True),
    ("", ()), ("", []), ("", ("a",)), ("", ["a"]), (("", "a"),), ([],), "b", "", (DEEP,),
    (DEEP_LIST,), ("", "A"), (".",), ("b", "b", None), (None,), ("", 1), ("b",) * 61,
]
BAD_KINDS = [
    "", "ab", "bc", "abc", "d", "A", "a ", " a", ".", None, True, False, 0, 1, -1, (), [],
    ("a",), ["a"], DEEP, DEEP_LIST,
]


def bad_numbers(least, greatest):
    """Return what is not an integer from least to greatest."""
    return [
        least - 1, greatest + 1, -(10 ** 30), 10 ** 30, True, False, None, "", "1", (), (1,), [],
        [1], DEEP, DEEP_LIST,
    ]


def at(place, values):
    """Return the changes that put each of the values at a place among the arguments."""
    return [{place: value} for value in values]


def check_errors(case, function, arguments, faults):
    """Check that wrong arguments raise the errors that are listed for them.

    faults are pairs of an error and the changes (place: value) of good arguments that raise
    it, in the order in which the document lists the errors. Each change is also tried
    together with changes that would raise a later error.
    """
    function(*arguments)
    for number, (error, changes) in enumerate(faults):
        others = [{}]
        for later_error, later in faults[number + 1:]:
            others += [later[0], later[-1]]
        for change in changes:
            for other in others:
                changed = list(arguments)
                for place, value in {**other, **change}.items():
                    changed[place] = value
                check_error(case, function, changed, error)


def check_error(case, function, arguments, error):
    """Check that a call raises just this error and changes none of its arguments."""
    kept = copy.deepcopy(arguments)
    with case.subTest(function.__name__, arguments=repr(arguments)[:200]):
        with case.assertRaises(error) as caught:
            function(*arguments)
        case.assertIs(caught.exception.__class__, error)
        case.assertEqual(repr(arguments), repr(kept))
