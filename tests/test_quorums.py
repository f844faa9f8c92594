"""Promises [21] to [26], and [2], [3] and [20] as far as they bear on quorums.py."""

import itertools
import unittest

from oathmoot.networks import Network
from oathmoot.quorums import is_quorum, is_removal_order, largest_quorum, minimal_quorums, removal_order
from tests import direct
from tests.cases import RaisingTestCase
from tests.samples import (
    APART, FOUR, OTHER_VALUES, PAIR, TRIO, drawn_cases, drawn_set, nested, subsets,
)

EMPTY = Network()
# c is convinced by itself, b by c, a by b, and d by two of the others; e needs f, which needs e and a.
CHAIN = Network([
    ("a", (1, ("b",))), ("b", (2, ("b", "c"))), ("c", (1, ("c",))), ("d", (2, ("a", (1, ("b", "e")), "c"))),
    ("e", (1, ("f",))), ("f", (2, ("e", "a"))),
])
EIGHT = Network([(name, (2, ((2, ("a", "b", "c")), (3, ("d", "e", "f", "g")), "h"))) for name in "abcdefgh"])


class IsQuorumTest(RaisingTestCase):

    def test_examples(self):
        self.assertIs(is_quorum(TRIO, ["a"]), False)
        self.assertIs(is_quorum(TRIO, ["a"], faulty=["c"]), True)

    def test_the_empty_set(self):
        for network in (EMPTY, PAIR, TRIO, EIGHT):
            self.assertIs(is_quorum(network, []), False)
            self.assertIs(is_quorum(network, (), faulty=network.node_names()), False)

    def test_a_set_that_holds_a_faulty_node(self):
        self.assertIs(is_quorum(TRIO, ["a", "b"]), True)
        for faulty in (["b"], ["a"], ["a", "b"], ["a", "b", "c"], ["b", "c"]):
            self.assertIs(is_quorum(TRIO, ["a", "b"], faulty=faulty), False)
        self.assertIs(is_quorum(TRIO, ["a", "b"], faulty=["c"]), True)

    def test_any_order_and_duplicates(self):
        for nodes in itertools.product("abc", repeat=3):
            for form in (tuple(nodes), list(nodes)):
                self.assertIs(is_quorum(TRIO, form), len(set(nodes)) >= 2)
        for faulty in (("c", "c"), ["c", "c", "c"], ["c"], ("c",)):
            self.assertIs(is_quorum(TRIO, ["b"], faulty=faulty), True)
            self.assertIs(is_quorum(FOUR, ["a", "a"], faulty=faulty), False)
            self.assertIs(is_quorum(FOUR, ["b", "a", "b"], faulty=faulty), True)

    def test_all_sets_by_a_direct_check(self):
        for network in (EMPTY, PAIR, APART, TRIO, FOUR, CHAIN):
            for nodes in subsets(network.node_names()):
                for faulty in subsets(network.node_names()):
                    self.assertIs(
                        is_quorum(network, nodes, faulty=faulty), direct.is_quorum(network, nodes, faulty)
                    )

    def test_drawn_networks_by_a_direct_check(self):
        for chance, network, faulty in drawn_cases(1, range(1, 9), 12):
            for nodes in subsets(network.node_names()):
                self.assertIs(is_quorum(network, nodes, faulty=faulty), direct.is_quorum(network, nodes, faulty))

    def test_inner_requirements_of_eight_nodes(self):
        self.assertIs(is_quorum(EIGHT, tuple("abdef")), True)
        self.assertIs(is_quorum(EIGHT, tuple("abde")), False)
        self.assertIs(is_quorum(EIGHT, tuple("abh")), True)
        self.assertIs(is_quorum(EIGHT, tuple("ade"), faulty=tuple("bf")), True)
        self.assertIs(is_quorum(EIGHT, tuple("abcdefgh")), True)

    def test_two_networks_in_turn(self):
        for _ in range(3):
            self.assertIs(is_quorum(APART, ["a"]), True)
            self.assertIs(is_quorum(PAIR, ["a"]), False)
            self.assertIs(is_quorum(FOUR, ["a", "b"]), False)
            self.assertIs(is_quorum(TRIO, ["a", "b"]), True)

    def test_the_union_of_quorums_is_a_quorum(self):
        for chance, network, faulty in drawn_cases(2, (5, 6), 10):
            found = direct.quorums(network, faulty)
            for one, other in itertools.combinations(found, 2):
                self.assertTrue(is_quorum(network, one + other, faulty=faulty))

    def test_arguments(self):
        self.assertIs(is_quorum(nodes=("b",), network=TRIO, faulty=("a",)), True)
        self.assert_by_name_only(is_quorum, TRIO, ("b",), ("a",))
        self.assert_unchanged(is_quorum, TRIO, ["b", "a", "b"], faulty=["c", "c"])

    def test_unknown_nodes(self):
        self.assert_unknown(is_quorum, {"network": FOUR}, {"nodes": "set", "faulty": "set"})
        self.assert_unknown_without_nodes(is_quorum, {}, ["nodes", "faulty"])
        self.assert_unknown(is_quorum, {"network": FOUR, "faulty": ["a"]}, {"nodes": "set"})


class RemovalOrderTest(RaisingTestCase):

    def order_by_check(self, network, nodes, faulty):
        """[23] step by step."""
        left = sorted(set(nodes) - set(faulty))
        order = []
        while True:
            loose = [name for name in left if direct.can_remove(network, name, left, faulty)]
            if not loose:
                return tuple(order), tuple(left)
            order.append(min(loose))
            left.remove(min(loose))

    def test_example(self):
        self.assertEqual(removal_order(FOUR, ["b", "a"]), ("a", "b"))

    def test_the_smallest_each_time(self):
        # After d has gone, a can go, although it is smaller than d.
        network = Network([("a", (1, ("d",))), ("b", (1, ("b",))), ("c", (1, ("e",))), ("d", (1, ("e",))),
                           ("e", (2, ("e", "b")))])
        self.assertEqual(removal_order(network, "abcd"), ("c", "d", "a"))
        self.assertEqual(removal_order(network, "abcde"), ())
        self.assertEqual(removal_order(network, "acde"), ("e", "c", "d", "a"))
        self.assertEqual(removal_order(network, "acd", faulty=["e"]), ())

    def test_nothing_to_remove(self):
        self.assertEqual(removal_order(TRIO, ["a", "b"]), ())
        self.assertEqual(removal_order(TRIO, []), ())
        self.assertEqual(removal_order(EMPTY, ()), ())
        self.assertEqual(removal_order(FOUR, ["a", "b"], faulty=["a", "b", "a"]), ())

    def test_faulty_nodes_in_the_set_are_ignored(self):
        for nodes in subsets("abcd"):
            for faulty in subsets("abcd"):
                outside = [name for name in nodes if name not in faulty]
                self.assertEqual(
                    removal_order(FOUR, nodes, faulty=faulty), removal_order(FOUR, outside, faulty=faulty)
                )

    def test_drawn_networks_by_a_direct_check(self):
        for chance, network, faulty in drawn_cases(3, range(1, 9), 60):
            nodes = drawn_set(chance, network.node_names(), 0.7)
            order, left = self.order_by_check(network, nodes, faulty)
            found = removal_order(network, nodes, faulty=faulty)
            self.assertEqual(repr(found), repr(order))
            self.assertEqual(repr(largest_quorum(network, nodes, faulty=faulty)), repr(left))
            self.assertIs(is_removal_order(network, nodes, found, faulty=faulty), True)

    def test_arguments(self):
        self.assertEqual(removal_order(nodes=["b", "a"], network=FOUR, faulty=["a"]), ("b",))
        self.assert_by_name_only(removal_order, FOUR, ["a", "b"], ["a"])
        found = self.assert_unchanged(removal_order, CHAIN, ["e", "d", "f", "e"], faulty=["b", "b"])
        self.assertEqual(repr(found), "('d', 'f', 'e')")

    def test_unknown_nodes(self):
        self.assert_unknown(removal_order, {"network": FOUR}, {"nodes": "set", "faulty": "set"})
        self.assert_unknown_without_nodes(removal_order, {}, ["nodes", "faulty"])


class IsRemovalOrderTest(RaisingTestCase):

    def check(self, network, nodes, order, faulty=()):
        """[24] step by step, for an order of strings."""
        left = set(nodes) - set(faulty)
        for name in order:
            if name not in left or not direct.can_remove(network, name, left, faulty):
                return False
            left.remove(name)
        return True

    def test_example(self):
        self.assertIs(is_removal_order(FOUR, ["a", "b"], ["b"]), True)

    def test_orders_as_tuples_and_lists(self):
        for order in ((), ("a",), ("b",), ("a", "b"), ("b", "a")):
            for form in (tuple(order), list(order)):
                self.assertIs(is_removal_order(FOUR, ["a", "b"], form), True)

    def test_orders_cut_short_are_orders(self):
        nodes = "abdef"
        order = removal_order(CHAIN, nodes)
        self.assertEqual(order, ("b", "a", "d", "f", "e"))
        for count in range(len(order) + 1):
            self.assertIs(is_removal_order(CHAIN, nodes, order[:count]), True)

    def test_nodes_exchanged(self):
        for order in itertools.permutations("abdef"):
            self.assertIs(is_removal_order(CHAIN, "abdef", order), self.check(CHAIN, "abdef", order))
        self.assertIs(is_removal_order(CHAIN, "abdef", ("a", "b", "d", "f", "e")), False)

    def test_a_node_twice(self):
        for order in (("a", "a"), ("a", "b", "a"), ("b", "b", "a"), ["a", "b", "b"]):
            self.assertIs(is_removal_order(FOUR, ["a", "b"], order), False)

    def test_unknown_faulty_and_outside_nodes(self):
        for order in (("z",), ("a", "z"), ("a", ""), ("a", "A"), ("c",), ["a", "c"], ("a", "b", "d")):
            self.assertIs(is_removal_order(FOUR, ["a", "b"], order), False)
        self.assertIs(is_removal_order(FOUR, ["a", "b"], ("a",), faulty=["b"]), True)
        for order in (("b",), ("a", "b"), ["b", "a"]):
            self.assertIs(is_removal_order(FOUR, ["a", "b"], order, faulty=["b"]), False)

    def test_a_node_that_cannot_be_removed(self):
        self.assertIs(is_removal_order(TRIO, ["a", "b"], ["a"]), False)
        self.assertIs(is_removal_order(TRIO, ["a"], ["a"]), True)
        self.assertIs(is_removal_order(TRIO, ["a"], ["a"], faulty=["b"]), False)

    def test_drawn_orders(self):
        answers = set()
        for chance, network, faulty in drawn_cases(4, range(2, 9), 40):
            nodes = drawn_set(chance, network.node_names(), 0.8)
            good = list(removal_order(network, nodes, faulty=faulty))
            for _ in range(6):
                order = list(good)
                chance.shuffle(order)
                order = order[:chance.randint(0, len(order))]
                answer = self.check(network, nodes, order, faulty)
                answers.add(answer)
                self.assertIs(is_removal_order(network, nodes, order, faulty=faulty), answer)
        self.assertEqual(answers, {True, False})

    def test_values_of_every_other_kind(self):
        orders = ((), ("a",), ("b",), ("a", "b"), ("b", "a"))
        for value in (*OTHER_VALUES, "a", "ab", "b", nested("a", 40), nested("a", 2), [["a"]], (("a",), "b"),
                      ("a", ["b"]), ("a", None), ("a", True), ("a", 1), ["a", []], nested([], 40)):
            good = isinstance(value, (tuple, list)) and tuple(value) in orders
            self.assertIs(is_removal_order(FOUR, ["a", "b"], value), good, value)

    def test_arguments(self):
        self.assertIs(is_removal_order(order=["b"], nodes=["b"], network=FOUR, faulty=["a"]), True)
        self.assert_by_name_only(is_removal_order, FOUR, ["a", "b"], ["b"], ["a"])
        self.assert_unchanged(is_removal_order, FOUR, ["b", "a", "b"], ["b", "a"], faulty=["d", "d"])

    def test_unknown_nodes(self):
        for order in (["b"], "a", None, ["z"], [[]]):
            self.assert_unknown(
                is_removal_order, {"network": FOUR, "order": order}, {"nodes": "set", "faulty": "set"}
            )
            self.assert_unknown_without_nodes(is_removal_order, {"order": order}, ["nodes", "faulty"])


class LargestQuorumTest(RaisingTestCase):

    def test_example(self):
        self.assertEqual(largest_quorum(FOUR, ["a", "b", "c"], faulty=["c"]), ("a", "b"))

    def test_none(self):
        self.assertEqual(largest_quorum(FOUR, ["a", "b"]), ())
        self.assertEqual(largest_quorum(TRIO, []), ())
        self.assertEqual(largest_quorum(EMPTY, []), ())
        self.assertEqual(largest_quorum(TRIO, "abc", faulty="abc"), ())

    def test_the_union_of_all_quorums_in_the_set(self):
        for chance, network, faulty in drawn_cases(5, range(1, 9), 25):
            nodes = drawn_set(chance, network.node_names(), 0.8)
            inside = [quorum for quorum in direct.quorums(network, faulty) if set(quorum) <= set(nodes)]
            union = tuple(sorted(set(itertools.chain(*inside))))
            self.assertEqual(repr(largest_quorum(network, nodes, faulty=faulty)), repr(union))

    def test_whatever_order_of_removal_is_used(self):
        for chance, network, faulty in drawn_cases(6, range(3, 9), 15):
            nodes = drawn_set(chance, network.node_names(), 0.8)
            for _ in range(3):
                left = [name for name in sorted(set(nodes)) if name not in faulty]
                loose = left
                while loose:
                    loose = [name for name in left if direct.can_remove(network, name, left, faulty)]
                    if loose:
                        left.remove(chance.choice(loose))
                self.assertEqual(largest_quorum(network, nodes, faulty=faulty), tuple(left))

    def test_arguments(self):
        self.assertEqual(largest_quorum(nodes=["b", "a"], network=TRIO, faulty=["a"]), ("b",))
        self.assert_by_name_only(largest_quorum, TRIO, ["a", "b"], ["a"])
        found = self.assert_unchanged(largest_quorum, TRIO, ["b", "a", "b"], faulty=["c", "c"])
        self.assertEqual(repr(found), "('a', 'b')")

    def test_unknown_nodes(self):
        self.assert_unknown(largest_quorum, {"network": FOUR}, {"nodes": "set", "faulty": "set"})
        self.assert_unknown_without_nodes(largest_quorum, {}, ["nodes", "faulty"])


class MinimalQuorumsTest(RaisingTestCase):

    def test_example(self):
        self.assertEqual(minimal_quorums(TRIO), (("a", "b"), ("a", "c"), ("b", "c")))

    def test_none(self):
        self.assertEqual(minimal_quorums(EMPTY), ())
        self.assertEqual(minimal_quorums(TRIO, faulty=["c", "a", "b"]), ())

    def test_by_size_and_then_in_ascending_order(self):
        network = Network([("a", (3, ("a", "b", "d"))), ("b", (3, ("a", "b", "d"))), ("c", (2, ("c", "d"))),
                           ("d", (1, ("d", "a", "c"))), ("e", (1, ("e",)))])
        self.assertEqual(minimal_quorums(network), (("d",), ("e",)))
        network = network.with_node("d", (2, ("d", (1, ("a", "c")))))
        self.assertEqual(minimal_quorums(network), (("e",), ("c", "d"), ("a", "b", "d")))

    def test_faulty_nodes_agree(self):
        self.assertEqual(minimal_quorums(FOUR, faulty=("d",)), (("a", "b"), ("a", "c"), ("b", "c")))
        self.assertEqual(minimal_quorums(FOUR, faulty=["d", "a", "d"]), (("b",), ("c",)))

    def test_eight_nodes(self):
        majority = Network([(name, (5, tuple("abcdefgh"))) for name in "abcdefgh"])
        self.assertEqual(minimal_quorums(majority), tuple(itertools.combinations("abcdefgh", 5)))
        self.assertEqual(minimal_quorums(EIGHT), direct.minimal(direct.quorums(EIGHT)))

    def test_drawn_networks_by_a_direct_check(self):
        for chance, network, faulty in drawn_cases(7, range(1, 9), 25):
            expected = direct.minimal(direct.quorums(network, faulty))
            self.assertEqual(repr(minimal_quorums(network, faulty=faulty)), repr(expected))

    def test_arguments(self):
        self.assertEqual(minimal_quorums(faulty=["a"], network=PAIR), (("b",),))
        self.assert_by_name_only(minimal_quorums, PAIR, ["a"])
        self.assert_unchanged(minimal_quorums, FOUR, faulty=["d", "a", "d"])

    def test_unknown_nodes(self):
        self.assert_unknown(minimal_quorums, {"network": FOUR}, {"faulty": "set"})
        self.assert_unknown_without_nodes(minimal_quorums, {}, ["faulty"])


if __name__ == "__main__":
    unittest.main()
