"""The graphs that the later stages stand on."""

import unittest

from coverterms.errors import TooLarge
from coverterms.graphs import explored, first_courses, graph_by_order
from tests.samples import BARE, PUMP


def wheel(many):
    """Return a function for the moves of so many nodes in a ring."""
    return lambda node: [("", 0, (node + 1) % many)]


class Explored(unittest.TestCase):
    def test_ordinary(self):
        moves = {"x": [("", 1, "x"), ("a", 0, "y")], "y": [("b", 2, "z")], "z": [("", 0, "x")]}
        self.assertEqual(explored("x", moves.get, 3), (
            ["x", "y", "z"], [[("", 1, 0), ("a", 0, 1)], [("b", 2, 2)], [("", 0, 0)]]))
        self.assertEqual(explored("z", moves.get, 3)[0], ["z", "x", "y"])

    def test_the_limit(self):
        for many in (1, 2, 9, 10):
            self.assertEqual(len(explored(0, wheel(many), 10)[0]), many)
        for many in (11, 12, 1000):
            with self.assertRaises(TooLarge):
                explored(0, wheel(many), 10)

    def test_a_part(self):
        nodes, moves = graph_by_order(BARE)
        self.assertEqual(nodes, [(0, ()), (1, ()), (2, ()), (3, ())])
        self.assertEqual(moves[0], [("", 0, 1), ("b", 5, 1)])
        self.assertEqual(moves[3], [("a", 5, 1), ("b", 5, 1)])


class FirstCourses(unittest.TestCase):
    def test_ordinary(self):
        nodes, moves = graph_by_order(PUMP)
        courses = first_courses(moves)
        self.assertEqual(courses, sorted(courses, key=lambda course: (len(course), course)))
        self.assertEqual(courses[:3], [(), ("",), ("", "")])
        self.assertEqual(len(courses), len(nodes))
