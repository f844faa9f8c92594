"""Promises [16] to [20], and [2] and [4] as far as they bear on networks.py."""

import copy
import itertools
import unittest

from oathmoot.errors import DuplicateNode, InUse, InvalidName, InvalidRequirement, MootError, UnknownNode
from oathmoot.networks import Network
from tests.cases import RaisingTestCase
from tests.samples import APART, BROKEN_REQUIREMENTS, FOUR, OTHER_VALUES, PAIR, REQUIREMENTS, TRIO

ALONE = (1, ("a",))
NOT_NAMES = OTHER_VALUES + REQUIREMENTS + ("abcdefghi", "a\n", "aB", ["a"])


class CreationTest(RaisingTestCase):

    def test_example(self):
        self.assert_raises(UnknownNode, {"name": "b"}, Network, [("a", (1, ("b",)))])

    def test_no_rows(self):
        for network in (Network(), Network(()), Network([]), Network(rows=())):
            self.assertEqual(network.node_names(), ())
            self.assertEqual(network.as_rows(), ())
            self.assertEqual(len(network), 0)

    def test_rows_as_tuples_and_lists_in_any_order(self):
        rows = [("b", (1, ("c", "a"))), ("c", (2, ("b", (1, ("a", "c"))))), ("a", ALONE)]
        for order in itertools.permutations(rows):
            for form in (tuple(order), list(order), [list(row) for row in order], tuple(list(row) for row in order)):
                network = Network(form)
                self.assertEqual(network.as_rows(), tuple(sorted(rows)))
                self.assertEqual(network.node_names(), ("a", "b", "c"))

    def test_names_in_ascending_order_of_strings(self):
        names = ("b", "aa", "ab", "a", "abcdefgh", "z", "ba", "aaa")
        network = Network([(name, (1, (name,))) for name in names])
        self.assertEqual(network.node_names(), ("a", "aa", "aaa", "ab", "abcdefgh", "b", "ba", "z"))
        self.assertEqual(network.as_rows(), tuple((name, (1, (name,))) for name in sorted(names)))

    def test_eight_nodes_and_one_more(self):
        for names in ("abcdefgh", "abcdefghi"):
            network = Network([(name, (8, tuple("abcdefgh"))) for name in names])
            self.assertEqual(network.node_names(), tuple(names))

    def test_a_list_that_is_changed_afterwards(self):
        rows = [["b", (1, ("a",))], ["a", (1, ("b",))]]
        network = Network(rows)
        rows[0][1] = (1, ("b",))
        rows[1][0] = "c"
        rows.append(["d", (1, ("d",))])
        self.assertEqual(network.as_rows(), PAIR.as_rows())
        self.assertEqual(network, PAIR)
        rows.clear()
        self.assertEqual(network.node_names(), ("a", "b"))

    def test_the_passed_rows_are_not_changed(self):
        for rows in ([["b", (1, ("a",))], ["a", ALONE]], [["b", (1, ("a",))], ["a", ["c"]]], [["b", ["a"]], [["a"], 1]]):
            before = copy.deepcopy(rows)
            try:
                Network(rows)
            except MootError:
                pass
            self.assertEqual(rows, before)

    def test_a_node_may_occur_in_its_own_requirement(self):
        self.assertEqual(Network([("a", ALONE)]).requirement_of("a"), ALONE)

    def test_invalid_names(self):
        for value in NOT_NAMES:
            self.assert_raises(InvalidName, {"value": value}, Network, [(value, ALONE)])
            self.assert_raises(InvalidName, {"value": value}, Network, [("a", ALONE), [value, None]])

    def test_duplicate_nodes(self):
        self.assert_raises(DuplicateNode, {"name": "a"}, Network, [("a", ALONE), ("a", ALONE)])
        rows = [("a", ALONE), ("b", ALONE), ["b", (1, ("b",))], ("a", ALONE)]
        self.assert_raises(DuplicateNode, {"name": "b"}, Network, rows)

    def test_invalid_requirements(self):
        for value in OTHER_VALUES + tuple(BROKEN_REQUIREMENTS.values()) + ("a",):
            self.assert_raises(InvalidRequirement, {"name": "b"}, Network, [("a", ALONE), ("b", value)])

    def test_unknown_nodes(self):
        self.assert_raises(UnknownNode, {"name": "c"}, Network, [("a", (3, ("x", "c", "a")))])
        self.assert_raises(UnknownNode, {"name": "c"}, Network, [("a", (2, ("x", (1, ("d", "c")))))])

    def test_unknown_nodes_in_the_order_of_the_rows(self):
        rows = [("b", (1, ("b", "z", "y"))), ("a", (1, ("c",)))]
        self.assert_raises(UnknownNode, {"name": "y"}, Network, rows)
        self.assert_raises(UnknownNode, {"name": "c"}, Network, rows[::-1])
        rows = [("c", ALONE), ("b", (1, ("d",))), ("a", (1, ("b", "e")))]
        self.assert_raises(UnknownNode, {"name": "d"}, Network, rows)

    def test_a_row_may_use_later_rows(self):
        self.assertEqual(Network([("a", (1, ("b",))), ("b", (1, ("a",)))]), PAIR)

    def test_in_one_row_the_name_comes_first(self):
        self.assert_raises(InvalidName, {"value": 7}, Network, [(7, 7)])
        self.assert_raises(DuplicateNode, {"name": "a"}, Network, [("a", ALONE), ("a", 7)])

    def test_the_first_wrong_row_comes_first(self):
        self.assert_raises(InvalidRequirement, {"name": "a"}, Network, [("a", 7), (7, ALONE)])
        self.assert_raises(InvalidRequirement, {"name": "a"}, Network, [("a", 7), ("a", ALONE)])
        self.assert_raises(InvalidName, {"value": "A"}, Network, [("A", 7), ("a", 7)])
        self.assert_raises(DuplicateNode, {"name": "a"}, Network, [("a", ALONE), ("a", ALONE), ("A", ALONE)])

    def test_unknown_nodes_come_last(self):
        unknown = ("a", (1, ("x",)))
        self.assert_raises(InvalidName, {"value": "B"}, Network, [unknown, ("B", ALONE)])
        self.assert_raises(DuplicateNode, {"name": "a"}, Network, [unknown, unknown])
        self.assert_raises(InvalidRequirement, {"name": "b"}, Network, [unknown, ("b", [])])


class QueriesTest(RaisingTestCase):

    def test_example(self):
        self.assertEqual(PAIR.as_rows(), (("a", (1, ("b",))), ("b", (1, ("a",)))))

    def test_tuples_are_returned(self):
        network = Network([["b", (1, ("a",))], ["a", ALONE]])
        self.assertEqual(repr(network.node_names()), "('a', 'b')")
        self.assertEqual(repr(network.as_rows()), "(('a', (1, ('a',))), ('b', (1, ('a',))))")

    def test_requirement_of(self):
        requirement = (2, ("c", (1, ("b", "a"))))
        network = Network([("c", requirement), ("a", ALONE), ("b", (1, ("c",)))])
        self.assertEqual(network.requirement_of("a"), ALONE)
        self.assertEqual(network.requirement_of("b"), (1, ("c",)))
        self.assertEqual(network.requirement_of(name="c"), requirement)

    def test_requirement_of_an_unknown_node(self):
        for name in ("c", "", "A", "ab", "a ", "a\n", "abcdefghijk", "x" * 2000):
            self.assert_raises(UnknownNode, {"name": name}, PAIR.requirement_of, name)
        self.assert_raises(UnknownNode, {"name": "a"}, Network().requirement_of, "a")

    def test_len(self):
        self.assertEqual([len(network) for network in (Network(), PAIR, TRIO, FOUR)], [0, 2, 3, 4])

    def test_equal_networks(self):
        self.assertTrue(Network() == Network([]))
        self.assertTrue(PAIR == Network([["b", (1, ("a",))], ["a", (1, ("b",))]]))
        self.assertFalse(PAIR != Network(PAIR.as_rows()))
        self.assertTrue(TRIO == TRIO)

    def test_other_networks(self):
        different = (Network(), PAIR, TRIO, FOUR, APART, Network([("a", ALONE)]), Network([("b", (1, ("b",)))]))
        for one, other in itertools.permutations(different, 2):
            self.assertFalse(one == other)
            self.assertTrue(one != other)

    def test_requirements_are_compared_as_they_are_written(self):
        self.assertFalse(APART == Network([("a", (1, ("b", "a"))), ("b", (1, ("a", "b")))]))
        self.assertFalse(APART == Network([("a", (2, ("a", "b"))), ("b", (1, ("a", "b")))]))

    def test_values_that_are_not_networks(self):
        for network in (Network(), PAIR):
            for value in (*OTHER_VALUES, network.as_rows(), list(network.as_rows()), network.node_names(),
                          dict(network.as_rows()), object(), len(network)):
                self.assertFalse(network == value)
                self.assertFalse(value == network)
                self.assertTrue(network != value)

    def test_an_object_that_claims_equality_decides_nothing(self):
        class Agreeable:
            def __eq__(self, other):
                return True

        self.assertFalse(PAIR == Agreeable())


class WithNodeTest(RaisingTestCase):

    def test_example(self):
        self.assertEqual(PAIR.with_node("c", (1, ("c",))).node_names(), ("a", "b", "c"))

    def test_a_node_is_added(self):
        network = PAIR.with_node("aa", (2, ("b", (1, ("aa", "a")))))
        self.assertIsInstance(network, Network)
        self.assertEqual(network.as_rows(), (
            ("a", (1, ("b",))), ("aa", (2, ("b", (1, ("aa", "a"))))), ("b", (1, ("a",))),
        ))
        self.assertEqual(Network().with_node("a", ALONE).as_rows(), (("a", ALONE),))

    def test_a_requirement_is_replaced(self):
        for name in "ab":
            network = PAIR.with_node(name, (2, ("b", "a")))
            self.assertEqual(network.node_names(), ("a", "b"))
            self.assertEqual(network.requirement_of(name), (2, ("b", "a")))
            other = "b" if name == "a" else "a"
            self.assertEqual(network.requirement_of(other), PAIR.requirement_of(other))

    def test_replaced_by_the_same(self):
        self.assertEqual(PAIR.with_node("a", (1, ("b",))), PAIR)

    def test_the_earlier_network_is_unchanged(self):
        network = Network([("b", (1, ("a",))), ("a", (1, ("b",)))])
        network.with_node("c", (1, ("c",)))
        network.with_node("a", ALONE)
        for name, requirement in ((7, ALONE), ("a", 7), ("a", (1, ("z",)))):
            with self.assertRaises(MootError):
                network.with_node(name, requirement)
        self.assertEqual(network.as_rows(), (("a", (1, ("b",))), ("b", (1, ("a",)))))
        self.assertEqual(len(network), 2)

    def test_invalid_names(self):
        for value in NOT_NAMES:
            for requirement in (ALONE, 7, (1, ("x",))):
                self.assert_raises(InvalidName, {"value": value}, PAIR.with_node, value, requirement)

    def test_invalid_requirements(self):
        for value in OTHER_VALUES + tuple(BROKEN_REQUIREMENTS.values()) + ("a",):
            for name in ("a", "c"):
                self.assert_raises(InvalidRequirement, {"name": name}, PAIR.with_node, name, value)

    def test_unknown_nodes(self):
        self.assert_raises(UnknownNode, {"name": "c"}, PAIR.with_node, "a", (1, ("d", "c", "a")))
        self.assert_raises(UnknownNode, {"name": "d"}, PAIR.with_node, "c", (1, ("e", "c", (1, ("d", "b")))))
        self.assert_raises(UnknownNode, {"name": "a"}, Network().with_node, "b", (1, ("a", "b", "c")))

    def test_by_names_of_the_parameters(self):
        self.assertEqual(PAIR.with_node(requirement=(1, ("c",)), name="c").requirement_of("c"), (1, ("c",)))


class WithoutNodeTest(RaisingTestCase):

    def test_example(self):
        self.assert_raises(InUse, {"name": "a", "user": "b"}, PAIR.without_node, "a")

    def test_a_node_is_removed(self):
        network = PAIR.with_node("c", (2, ("a", "c"))).without_node("c")
        self.assertIsInstance(network, Network)
        self.assertEqual(network, PAIR)

    def test_its_own_requirement_does_not_count(self):
        network = Network([("a", ALONE), ("b", (1, ("b", "a")))])
        self.assertEqual(network.without_node("b").as_rows(), (("a", ALONE),))
        self.assertEqual(Network([("a", ALONE)]).without_node(name="a"), Network())

    def test_unknown_nodes(self):
        for name in ("c", "", "A", "ab", "a\n", "x" * 2000):
            self.assert_raises(UnknownNode, {"name": name}, PAIR.without_node, name)
        self.assert_raises(UnknownNode, {"name": "a"}, Network().without_node, "a")

    def test_the_smallest_user(self):
        network = Network([
            ("d", (1, ("c",))), ("b", (1, ("b", (1, ("a", "c"))))), ("c", (1, ("c",))), ("a", (1, ("b",))),
        ])
        self.assert_raises(InUse, {"name": "c", "user": "b"}, network.without_node, "c")
        self.assert_raises(InUse, {"name": "a", "user": "b"}, network.without_node, "a")
        self.assert_raises(InUse, {"name": "b", "user": "a"}, network.without_node, "b")
        self.assertEqual(network.without_node("d").node_names(), ("a", "b", "c"))

    def test_the_user_is_another_node(self):
        network = Network([("a", ALONE), ("b", (1, ("b",))), ("c", (1, ("a",)))])
        self.assert_raises(InUse, {"name": "a", "user": "c"}, network.without_node, "a")
        self.assertEqual(network.without_node("b").node_names(), ("a", "c"))

    def test_the_earlier_network_is_unchanged(self):
        network = Network([("a", ALONE), ("b", (1, ("a",)))])
        network.without_node("b")
        for name in ("a", "c"):
            with self.assertRaises(MootError):
                network.without_node(name)
        self.assertEqual(network.as_rows(), (("a", ALONE), ("b", (1, ("a",)))))
        self.assertEqual(len(network), 2)


class NamesThatAreNotNodesTest(RaisingTestCase):

    def test_the_first_name_that_is_not_a_node(self):
        self.assert_raises(UnknownNode, {"name": "z"}, PAIR.check_nodes, ["b", "z", "c", "a"])
        self.assert_raises(UnknownNode, {"name": ""}, PAIR.check_nodes, ("a", "", "c"))
        self.assert_raises(UnknownNode, {"name": "a"}, Network().check_nodes, ["a"])

    def test_nodes(self):
        for names in ((), [], ("b",), ["b", "a", "b"]):
            self.assertIsNone(PAIR.check_nodes(names))
        self.assertIsNone(Network().check_nodes(()))

    def test_it_comes_before_other_checks(self):
        network = Network([("a", ALONE), ("b", (1, ("a",)))])
        self.assert_raises(UnknownNode, {"name": "c"}, network.without_node, "c")
        self.assert_raises(UnknownNode, {"name": "c"}, network.requirement_of, "c")


if __name__ == "__main__":
    unittest.main()
