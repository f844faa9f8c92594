"""Promise [2]: the form of node sets, and the order of several of them."""

import unittest

from oathmoot.nodesets import is_ascending, is_within, minimal_sets, names_outside, node_set, subsets
from tests import samples


class NodeSetsTest(unittest.TestCase):

    def test_node_set(self):
        for names in (["b", "a", "b"], ("a", "b"), ("b", "b", "a")):
            self.assertEqual(node_set(names), ("a", "b"))
        self.assertEqual(node_set([]), ())
        self.assertEqual(node_set(["b", "aa", "a", "ab"]), ("a", "aa", "ab", "b"))

    def test_is_within(self):
        for small in samples.subsets("abc"):
            for large in samples.subsets("abc"):
                self.assertIs(is_within(small, large), set(small) <= set(large))

    def test_names_outside(self):
        self.assertEqual(names_outside(("c", "a", "b"), ["a"]), ("c", "b"))
        self.assertEqual(names_outside(["a", "b"], ("b", "a", "z")), ())
        self.assertEqual(names_outside((), ("a",)), ())

    def test_is_ascending(self):
        for entries in ((), ("b",), ("a", "aa", "b"), [1, 2, 3]):
            self.assertIs(is_ascending(entries), True)
        for entries in (("a", "a"), ("b", "a"), ("a", "c", "b"), ("a", "b", "b"), (2, 1, 3)):
            self.assertIs(is_ascending(entries), False)

    def test_subsets(self):
        self.assertEqual(subsets(()), ((),))
        self.assertEqual(subsets(("a", "b")), ((), ("a",), ("b",), ("a", "b")))
        for names in ("abc", "abcdefgh"):
            self.assertEqual(subsets(tuple(names)), tuple(samples.subsets(names)))

    def test_minimal_sets(self):
        self.assertEqual(minimal_sets([]), ())
        self.assertEqual(minimal_sets([(), ("a",), ("a", "b")]), ((),))
        self.assertEqual(
            minimal_sets([("c",), ("a", "b"), ("b", "c"), ("b", "d"), ("a", "b", "d"), ("a", "d", "e")]),
            (("c",), ("a", "b"), ("b", "d"), ("a", "d", "e")),
        )


if __name__ == "__main__":
    unittest.main()
