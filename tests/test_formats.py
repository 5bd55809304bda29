"""Text formats: 12.1 and 12.2."""

import re
import unittest

from coverterms.courses import is_course
from coverterms.errors import InvalidCourse, InvalidPart, ParseError
from coverterms.formats import format_course, format_part, parse_course, parse_part
from coverterms.parts import is_part
from tests.samples import BARE, FULL, KEPT, LONG, NARROW, ODD, PUMP, WIDE, random_parts
from tests.samples import small_parts
from tests.slow import walks
from tests.wrong import BAD_COURSES, BAD_PARTS, at, check_error, check_errors

PUMP_TEXT = (
    "part 5 3\nlife a 1\nlife b 0\nterm maker 2 ab rest 0 keep\nterm seller 3 a anew 1 sale\n"
)
BARE_TEXT = "part 5 3\nlife a 1\nlife b 0\n"
WIDE_TEXT = (
    "part 20 8\nlife a 6\nlife b 6\nlife c 6\nterm zzzzzz 6 abc anew 2 sale\n"
    "term b 6 abc rest 2 keep\nterm c 6 - rest 0 sale\n"
)
NOT_STRINGS = [value for value in ODD if not isinstance(value, str)] + [
    [PUMP_TEXT], (PUMP_TEXT,), list(PUMP_TEXT), tuple(PUMP_TEXT), [".", "a"], (".", "a"), PUMP,
]
LINE = "[a-z]{1,6} [1-6] (-|a|b|c|ab|ac|bc|abc) (anew|rest) [012] (sale|keep)"
TEXT = re.compile(
    f"part ([1-9]|1[0-9]|20) [0-8]\n(life [abc] [0-6]\n){{1,3}}(term {LINE}\n){{0,3}}"
)
SIGNS = "0123456789 \n-+.abcdpxz\tA\r\u0660\u00b2"


def reading(text):
    """Return the part whose format is the text by a second reading, None if there is none."""
    if TEXT.fullmatch(text) is None:
        return None
    rows = [line.split() for line in text.splitlines()]
    lives = tuple((row[1], int(row[2])) for row in rows if row[0] == "life")
    kinds = [kind for kind, least in lives]
    payers = [row[1] for row in rows if row[0] == "term"]
    price, most = int(rows[0][1]), int(rows[0][2])
    if kinds != sorted(set(kinds)) or len(payers) > len(set(payers)):
        return None
    if 0 < most < min(least for kind, least in lives):
        return None
    return (price, lives, most, tuple(
        (row[1], int(row[2]), row[3].replace("-", ""), row[4], int(row[5]), row[6] == "sale")
        for row in rows if row[0] == "term"
    ))


def neighbours(text, signs):
    """Yield all texts that differ from a text by one character."""
    for place in range(len(text) + 1):
        for sign in signs:
            yield text[:place] + sign + text[place:]
            if place < len(text) and text[place] != sign:
                yield text[:place] + sign + text[place + 1:]
        if place < len(text):
            yield text[:place] + text[place + 1:]


class FormatPart(unittest.TestCase):
    def test_example(self):
        self.assertEqual(format_part(BARE), "part 5 3\nlife a 1\nlife b 0\n")

    def test_ordinary(self):
        self.assertEqual(format_part(PUMP), PUMP_TEXT)
        self.assertEqual(format_part(WIDE), WIDE_TEXT)
        self.assertEqual(format_part(NARROW), "part 1 0\nlife c 0\n")

    def test_empty_kinds(self):
        part = (9, (("a", 0),), 1, (("x", 1, "", "anew", 2, False), ("y", 1, "c", "rest", 1, True)))
        self.assertEqual(
            format_part(part),
            "part 9 1\nlife a 0\nterm x 1 - anew 2 keep\nterm y 1 c rest 1 sale\n")

    def test_different_parts_have_different_formats(self):
        parts = set(random_parts(101, 400) + small_parts(102, 400))
        self.assertEqual(len({format_part(part) for part in parts}), len(parts))

    def test_wrong_parts(self):
        check_errors(self, format_part, (PUMP,), [(InvalidPart, at(0, BAD_PARTS))])


class ParsePart(unittest.TestCase):
    def check(self, text):
        """Check that the text is read as by the second reading; return whether it was read."""
        want = reading(text)
        if want is None:
            check_error(self, parse_part, [text], ParseError)
            return False
        self.assertEqual(parse_part(text), want)
        self.assertIs(is_part(want), True)
        self.assertEqual(format_part(want), text)
        return True

    def test_ordinary(self):
        for part, text in [(PUMP, PUMP_TEXT), (BARE, BARE_TEXT), (WIDE, WIDE_TEXT)]:
            self.assertEqual(parse_part(text), part)
        self.assertIs(parse_part(PUMP_TEXT)[3][1][5], True)
        self.assertIs(parse_part(PUMP_TEXT)[3][0][5], False)

    def test_what_is_written_is_read_back(self):
        parts = [PUMP, BARE, NARROW, FULL, KEPT, LONG]
        for part in random_parts(103, 500) + small_parts(104, 500) + parts:
            text = format_part(part)
            self.assertEqual(parse_part(text), part)
            self.assertTrue(self.check(text))

    def test_every_number_of_every_field(self):
        for number in range(-1, 24):
            for written in (str(number), f"0{number}", f"+{number}"):
                for text in [
                    f"part {written} 3\nlife a 1\n", f"part 5 {written}\nlife a 1\n",
                    f"part 5 8\nlife a {written}\nlife b 0\n",
                    f"part 5 8\nlife a 1\nterm x {written} a rest 0 keep\n",
                    f"part 5 8\nlife a 1\nterm x 1 a rest {written} keep\n",
                ]:
                    self.check(text)

    def test_one_character_that_differs(self):
        read = refused = 0
        for text in [PUMP_TEXT, BARE_TEXT, WIDE_TEXT]:
            for other in neighbours(text, SIGNS):
                if self.check(other):
                    read += 1
                else:
                    refused += 1
        self.assertGreater(read, 100)
        self.assertGreater(refused, 5000)

    def test_no_format(self):
        for text in [
            "", "\n", " ", "part", "part\n", "part 5\n", "part 5 3\n", "part 5 3", "life a 1\n",
            "part 05 3\nlife a 1\n", "part 5 3\nlife a 01\n", "part 5 +3\nlife a 1\n",
            "part -5 3\nlife a 1\n", "part 5 -0\nlife a 1\n", "part 5  3\nlife a 1\n",
            "part 5 3 \nlife a 1\n", " part 5 3\nlife a 1\n", "part 5 3\nlife a 1",
            "part 5 3\nlife a 1\n\n", "\npart 5 3\nlife a 1\n", "part 5 3\n\nlife a 1\n",
            "part 5 3\r\nlife a 1\r\n", "part 5 3\tlife a 1\n", "part\t5 3\nlife a 1\n",
            "part 5 3\nlife b 0\nlife a 1\n", "part 5 3\nlife a 0\nlife a 1\n",
            "part 5 3\nlife d 0\n", "part 5 3\nlife  0\n", "part 5 3\nlife ab 0\n",
            "part 5 3 1\nlife a 1\n", "part 5 3\nlife a 1 1\n", "part 5 3\nlife a\n",
            "part 5 3\npart 5 3\nlife a 1\n", "life a 1\npart 5 3\n", "part 5 3\nLife a 1\n",
            "part 0 3\nlife a 1\n", "part 21 3\nlife a 1\n", "part 5 9\nlife a 1\n",
            "part 5 3\nlife a 7\n", "part 5 3\nlife a 4\n", "part x 3\nlife a 1\n",
            "part 5 3\nlife a 1\nterm\n", "part 5 3\nlife a 1\nlife\n", "part 5 3\nlife a 1\nx\n",
            "part 5 3\nlife a 0\nlife b 0\nlife c 0\nlife d 0\n",
            "part 5 3\nlife a 0\nlife b 0\nlife c 0\nlife c 1\n",
            "part 5 3\nlife a \u0661\n", "part 5 3\nlife a \u00b2\n", "part \uff15 3\nlife a 1\n",
            "part " + "9" * 5000 + " 3\nlife a 1\n", "part 5 3\nlife a " + "0" * 5000 + "\n",
            BARE_TEXT + PUMP_TEXT, PUMP_TEXT + PUMP_TEXT, PUMP_TEXT.upper(), "x" * 10000,
            PUMP_TEXT.replace("\n", " "), "part 5 3\n" * 1000, repr(PUMP),
        ]:
            self.assertFalse(self.check(text))

    def test_terms(self):
        first = "part 5 3\nlife a 1\nterm x 2 a rest 0 keep\n"
        self.assertTrue(self.check(first))
        for line in [
            "term y 2  rest 0 keep", "term y 2 - rest 0 keep ", "term y 2 -- rest 0 keep",
            "term y 2 -a rest 0 keep", "term y 2 ba rest 0 keep", "term y 2 aa rest 0 keep",
            "term y 2 abcd rest 0 keep", "term y 2 d rest 0 keep", "term y 2 a Rest 0 keep",
            "term y 2 a old 0 keep", "term y 2 a rest 0 True", "term y 2 a rest 0 sal",
            "term y 2 a rest 0", "term y 2 a rest 0 keep sale", "term y 0 a rest 0 keep",
            "term y 7 a rest 0 keep", "term y 2 a rest 3 keep", "term y 2 a rest -1 keep",
            "term  2 a rest 0 keep", "term yyyyyyy 2 a rest 0 keep", "term Y 2 a rest 0 keep",
            "term x 2 a rest 0 keep", "term - 2 a rest 0 keep", "term y 2 a - 0 keep", "life c 0",
            "term y1 2 a rest 0 keep", "y 2 a rest 0 keep", "",
        ]:
            self.assertFalse(self.check(first + line + "\n"), line)
        lines = [f"term {payer} 2 a rest 0 keep\n" for payer in "xyzv"]
        for many in range(5):
            self.assertIs(self.check("part 5 3\nlife a 1\n" + "".join(lines[:many])), many <= 3)
        self.assertFalse(self.check("part 5 3\nterm x 2 a rest 0 keep\nlife a 1\n"))

    def test_no_strings(self):
        for value in NOT_STRINGS:
            check_error(self, parse_part, [value], ParseError)
        for value in ODD:
            if isinstance(value, str):
                check_error(self, parse_part, [value], ParseError)


class FormatCourse(unittest.TestCase):
    def test_example(self):
        self.assertEqual(format_course(PUMP, ("", "a")), ".a")

    def test_ordinary(self):
        for course, text in [
            ((), ""), (("",), "."), (("b",), "b"), (("", "", "", "a", "b"), "...ab"),
            (("b",) * 60, "b" * 60), (("", "b") * 30, ".b" * 30),
        ]:
            self.assertEqual(format_course(PUMP, course), text)
        self.assertEqual(format_course(NARROW, ("",) * 60), "." * 60)
        self.assertEqual(format_course(NARROW, ("c", "", "c")), "c.c")

    def test_exceptions_in_order(self):
        for course in ((), ("b",) * 60):
            check_errors(self, format_course, (PUMP, course), [
                (InvalidPart, at(0, BAD_PARTS)), (InvalidCourse, at(1, BAD_COURSES))])


class ParseCourse(unittest.TestCase):
    def check(self, part, text):
        """Check that the text is read if it is the format of a course; return whether it is."""
        course = tuple(sign.replace(".", "") for sign in text)
        if set(text) <= set(".abc") and is_course(part, course):
            self.assertEqual(parse_course(part, text), course)
            return True
        check_error(self, parse_course, [part, text], ParseError)
        return False

    def test_ordinary(self):
        self.assertEqual(parse_course(PUMP, ".a"), ("", "a"))
        self.assertEqual(parse_course(PUMP, ""), ())
        self.assertEqual(parse_course(PUMP, "b" * 60), ("b",) * 60)
        self.assertEqual(parse_course(NARROW, "." * 60), ("",) * 60)
        check_error(self, parse_course, [PUMP, "b" * 61], ParseError)
        check_error(self, parse_course, [NARROW, "." * 61], ParseError)

    def test_what_is_written_is_read_back(self):
        for part in small_parts(105, 60) + [PUMP, BARE, NARROW]:
            for level in walks(part, 4):
                for course, cost, state, payers in level:
                    text = format_course(part, course)
                    self.assertEqual(len(text), len(course))
                    self.assertEqual(parse_course(part, text), course)

    def test_one_character_that_differs(self):
        read = refused = 0
        for text in ["", ".", "b", ".a", "...ab..b", "b" * 59, "b" * 60, ".b" * 30]:
            self.assertTrue(self.check(PUMP, text))
            for other in neighbours(text, ".abcd \n-ABx0\u00e4"):
                if self.check(PUMP, other):
                    read += 1
                else:
                    refused += 1
        self.assertGreater(read, 100)
        self.assertGreater(refused, 1000)

    def test_texts_of_other_parts(self):
        for text in ["a", "c", ".c", "....", "....a", "...a..."]:
            self.assertFalse(self.check(PUMP, text))
        self.assertTrue(self.check(NARROW, "...c"))
        self.assertFalse(self.check(NARROW, "b"))

    def test_exceptions_in_order(self):
        wrong = NOT_STRINGS + [
            " ", "\n", ".a\n", " .a", ". a", ".A", "d", "-", "ab", "....", "b" * 61, "x" * 5000,
            "None", "('', 'a')", "\u2024", "\x00",
        ]
        for text in ("", ".a", "b" * 60):
            check_errors(self, parse_course, (PUMP, text), [
                (InvalidPart, at(0, BAD_PARTS)), (ParseError, at(1, wrong))])
