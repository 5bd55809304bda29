"""Parts and terms: 1.1, 1.2 and the definitions 0.3 to 0.6."""

import copy
import unittest

from coverterms.errors import InvalidPart, InvalidTerms
from coverterms.parts import is_part, is_term, payers, with_terms
from tests.samples import BARE, NARROW, ODD, PUMP, WIDE, random_parts

TERM = ("maker", 2, "ab", "rest", 0, False)
FIELDS = ["payer", "days", "kinds", "renewal", "claims", "sale"]


def term_with(field, value):
    at = FIELDS.index(field)
    return TERM[:at] + (value,) + TERM[at + 1:]


def part_with(at, value, part=PUMP):
    return part[:at] + (value,) + part[at + 1:]


class Checking(unittest.TestCase):
    def assert_all(self, expected, function, candidates):
        for candidate in candidates:
            with self.subTest(repr(candidate)[:80]):
                self.assertIs(function(candidate), expected)

    def assert_terms(self, expected, field, values):
        self.assert_all(expected, is_term, [term_with(field, value) for value in values])

    def assert_parts(self, expected, at, values, part=PUMP):
        self.assert_all(expected, is_part, [part_with(at, value, part) for value in values])


class IsTerm(Checking):
    def test_examples(self):
        self.assertIs(is_term(("maker", 2, "ba", "rest", 0, False)), False)
        self.assert_all(True, is_term, [TERM, *PUMP[3], *WIDE[3]])

    def test_payer(self):
        self.assert_terms(True, "payer", ["a", "z", "abcdef", "zzzzzz", "aaaaaa", "anew"])
        self.assert_terms(False, "payer", [
            "", "abcdefg", "A", "aB", "maker ", "maker\n", "a1", "a_b", "-", "\u00e4", "\u0430",
            " ", "`", "{", None, True, 1, (), [], ("m",), ["m"], ["m", "a"], ("a", "b"),
        ])

    def test_days(self):
        self.assert_terms(True, "days", [1, 2, 3, 4, 5, 6])
        self.assert_terms(False, "days", [
            0, 7, -1, -6, 10 ** 30, -10 ** 30, True, False, None, "", "1", (), (1,), [1], [],
        ])

    def test_kinds(self):
        self.assert_terms(True, "kinds", ["", "a", "b", "c", "ab", "ac", "bc", "abc"])
        self.assert_terms(False, "kinds", [
            "ba", "ca", "cb", "acb", "bac", "bca", "cab", "cba", "aa", "aab", "abb", "abcc",
            "d", "abd", "A", "a ", " ", "abcd", "-", None, True, False, 0, 1, (), ("a",), [],
            ["a"], ["a", "b"], ("a", "b"),
        ])

    def test_renewal(self):
        self.assert_terms(True, "renewal", ["anew", "rest"])
        self.assert_terms(False, "renewal", [
            "", "a", "new", "anewrest", "Anew", "REST", "rest ", "ane", None, True, False, 0, 1,
            (), ("anew",), [], ["rest"], ("anew", "rest"),
        ])

    def test_claims(self):
        self.assert_terms(True, "claims", [0, 1, 2])
        self.assert_terms(False, "claims", [
            -1, 3, 10 ** 30, True, False, None, "", "0", (), [], (0,), [0],
        ])

    def test_sale(self):
        self.assert_terms(True, "sale", [True, False])
        self.assert_terms(False, "sale", [0, 1, 2, None, "", "True", "sale", (), [], (True,)])

    def test_form(self):
        self.assert_all(False, is_term, ODD)
        self.assert_all(False, is_term, [
            list(TERM), TERM[:5], TERM[:1], TERM + (False,), TERM + TERM, (TERM,), [TERM],
            TERM[1:], TERM[::-1], "maker2", (None,) * 6, PUMP, BARE,
        ])


class IsPart(Checking):
    def test_ordinary(self):
        self.assert_all(True, is_part, [PUMP, BARE, WIDE, NARROW])
        self.assert_all(True, is_part, random_parts(1, 200))

    def test_price(self):
        self.assert_parts(True, 0, range(1, 21))
        self.assert_parts(False, 0, [
            0, 21, -1, -20, 10 ** 30, True, False, None, "", "5", (), (5,), [5], [],
        ])

    def test_lives(self):
        self.assert_parts(True, 1, [
            (("a", 0),), (("b", 3),), (("c", 1),), (("a", 6), ("b", 0)), (("a", 0), ("c", 6)),
            (("b", 2), ("c", 2)), (("a", 3), ("b", 3), ("c", 3)), (("a", 6), ("b", 5), ("c", 0)),
        ])
        self.assert_parts(True, 1, [(("a", least),) for least in range(7)], WIDE)
        self.assert_parts(False, 1, [
            (), (("b", 0), ("a", 1)), (("a", 1), ("a", 1)), (("a", 0), ("a", 1)),
            (("a", 1), ("c", 0), ("b", 0)), (("a", 0), ("b", 0), ("c", 0), ("d", 0)),
            (("a", 0), ("b", 0), ("b", 1)), (("a", 0), ("b", 0), ("c", 0), ("c", 1)),
            (("c", 0), ("b", 0)), (("c", 0), ("b", 0), ("a", 0)),
        ])
        self.assert_parts(False, 1, [
            None, True, 0, "", "a", "a1", [], [("a", 1)], [("a", 1), ("b", 0)], ("a", 1),
            ("a",), ("a1",), ("a1", "b0"), (1,), (None,), (True,), ((),), ([],), (["a", 1],),
            (("a", 1), ["b", 0]), (("a",),), (("a", 1, 1),), ((("a", 1),),), ((1, "a"),),
            (("a", 1), None), (("a", 1), ()),
        ])

    def test_life_kind(self):
        self.assert_parts(False, 1, [
            ((kind, 1),)
            for kind in ["", "ab", "abc", "bc", "d", "A", "a ", None, True, 0, 1, (), [], ("a",)]
        ] + [(("a", 1), ("bc", 1)), (("ab", 1), ("c", 1)), (("", 1), ("a", 1))])

    def test_life_number(self):
        numbers = [
            -1, 7, 10 ** 30, True, False, None, "", "0", (), [], (0,), [0],
        ]
        self.assert_parts(False, 1, [(("a", number),) for number in numbers], WIDE)
        self.assert_parts(False, 1, [(("a", 0), ("b", number)) for number in numbers])

    def test_most(self):
        self.assert_parts(True, 2, range(0, 9))
        self.assert_parts(False, 2, [
            -1, 9, 10, -8, 10 ** 30, True, False, None, "", "3", (), [], (3,), [3],
        ])

    def test_most_and_the_least_number_of_lives(self):
        for least in range(7):
            part = (5, (("a", 6), ("b", least)), 0, ())
            allowed = [0] + list(range(max(1, least), 9))
            self.assert_parts(True, 2, allowed, part)
            self.assert_parts(False, 2, [most for most in range(12) if most not in allowed], part)

    def test_terms(self):
        maker, seller = PUMP[3]
        third = ("third", 1, "", "anew", 2, True)
        fourth = ("fourth", 1, "c", "anew", 2, True)
        self.assert_parts(True, 3, [
            (), (maker,), (seller, maker), (maker, seller, third), (third,), (third, maker),
        ])
        self.assert_parts(False, 3, [
            (maker, seller, third, fourth), (maker, maker), (maker, seller, maker),
            (maker, ("maker", 1, "", "anew", 2, True)), (maker, third, seller, maker),
            [], [maker], (list(maker),), (maker, list(seller)), (maker, None), (None,), ((),),
            maker, None, True, 0, "", "a", (maker[:5],), (maker + (1,),), ((maker,),),
            (term_with("days", 7),), (maker, term_with("kinds", "ba")), ("maker",),
            (maker, seller, 3), (maker, seller, []), ([maker],), (True,), (0,),
        ])

    def test_form(self):
        self.assert_all(False, is_part, ODD)
        self.assert_all(False, is_part, [
            list(PUMP), list(BARE), PUMP[:3], PUMP[:1], PUMP + ((),), BARE + BARE, (PUMP,),
            [PUMP], PUMP[::-1], BARE[1:], TERM, (5, BARE[1], 3), (None,) * 4, ("",) * 4,
            ((),) * 4, ([],) * 4, (True,) * 4,
        ])


class Payers(Checking):
    def test_ordinary(self):
        self.assertEqual(payers(PUMP), ["maker", "seller"])
        self.assertEqual(payers(BARE), [])
        self.assertEqual(payers(WIDE), ["zzzzzz", "b", "c"])
        self.assertEqual(payers(NARROW), [])
        self.assertIsInstance(payers(BARE), list)

    def test_order_is_that_of_the_terms(self):
        self.assertEqual(payers(part_with(3, PUMP[3][::-1])), ["seller", "maker"])

    def test_the_list_is_new(self):
        first = payers(PUMP)
        first.append("other")
        self.assertEqual(payers(PUMP), ["maker", "seller"])

    def test_wrong_parts(self):
        for candidate in ODD + [list(PUMP), PUMP[:3], part_with(0, True), part_with(3, [])]:
            with self.subTest(repr(candidate)[:80]), self.assertRaises(InvalidPart):
                payers(candidate)


class WithTerms(Checking):
    def test_example(self):
        self.assertEqual(with_terms(PUMP, ()), BARE)

    def test_ordinary(self):
        self.assertEqual(with_terms(BARE, PUMP[3]), PUMP)
        self.assertEqual(with_terms(PUMP, WIDE[3]), (5, (("a", 1), ("b", 0)), 3, WIDE[3]))
        self.assertEqual(with_terms(WIDE, (TERM,)), WIDE[:3] + ((TERM,),))
        self.assertEqual(with_terms(PUMP, PUMP[3]), PUMP)
        for part in random_parts(2, 50):
            self.assertEqual(with_terms(BARE, part[3]), BARE[:3] + (part[3],))
            self.assertEqual(with_terms(part, PUMP[3]), part[:3] + (PUMP[3],))

    def test_nothing_is_changed(self):
        part, terms = copy.deepcopy(PUMP), [["a", 1], (2, [3])]
        kept = copy.deepcopy(terms)
        with self.assertRaises(InvalidTerms):
            with_terms(part, terms)
        self.assertEqual((part, terms), (PUMP, kept))

    def test_wrong_parts(self):
        for candidate in ODD + [list(PUMP), PUMP[:3], part_with(0, True), part_with(3, [])]:
            for terms in [(), (TERM,), None, [], "x", (1,)]:
                with self.subTest(repr(candidate)[:80]), self.assertRaises(InvalidPart):
                    with_terms(candidate, terms)

    def test_wrong_terms(self):
        odd = [value for value in ODD if value != ()]
        for terms in odd + [
            [], [TERM], TERM, (TERM, TERM), (TERM, 1), (list(TERM),), (TERM[:5],), ((),),
            WIDE[3] + (TERM,), (term_with("claims", True),), (term_with("sale", 0),),
        ]:
            for part in [PUMP, BARE]:
                with self.subTest(repr(terms)[:80]), self.assertRaises(InvalidTerms):
                    with_terms(part, terms)
