"""Promises [31] to [39], and [2], [3], [4] and [20] as far as they bear on tolerance.py."""

import itertools
import random
import unittest

from oathmoot.errors import DisjointQuorums, UnknownNode
from oathmoot.intersection import intersection
from oathmoot.networks import Network
from oathmoot.tolerance import (
    closure, dependent_nodes, fatal_sets, guardian_sets, minimal_tolerated, repairs, tolerance, tolerated_sets,
)
from tests import direct
from tests.cases import RaisingTestCase
from tests.samples import APART, FOUR, PAIR, TRIO, drawn_network, drawn_set, subsets

EMPTY = Network()
ALONE = Network([("a", (1, ("a",)))])
EIGHT = Network([(name, (6, tuple("abcdefgh"))) for name in "abcdefgh"])
# Two groups that agree as groups; each node needs a majority of its own group and one node of the other one.
GROUPS = Network(
    [(name, (2, ((2, ("a", "b", "c")), (1, ("d", "e", "f"))))) for name in "abc"]
    + [(name, (2, ((1, ("a", "b", "c")), (2, ("d", "e", "f"))))) for name in "def"]
)
NAMED = (EMPTY, ALONE, PAIR, APART, TRIO, FOUR, GROUPS)


def drawn_networks(seed, sizes, times):
    chance = random.Random(seed)
    for size in sizes:
        for _ in range(times):
            yield chance, drawn_network(chance, size)


class ToleranceTestCase(RaisingTestCase):

    def assert_disjoint(self, network, call, *arguments):
        """The call raises DisjointQuorums with two quorums, written as node sets, that have no node in common."""
        with self.assertRaises(DisjointQuorums) as caught:
            call(network, *arguments)
        self.assertIs(type(caught.exception), DisjointQuorums)
        one, other = caught.exception.one, caught.exception.other
        found = direct.quorums(network)
        self.assertIn(one, found)
        self.assertIn(other, found)
        self.assertFalse(set(one) & set(other))


class ToleranceTest(ToleranceTestCase):

    def check(self, network, faulty):
        """The result is of one of the three forms and true, by a direct check; return its word."""
        result = tolerance(network, faulty)
        self.assertIsInstance(result, tuple)
        honest = direct.honest_nodes(network, faulty)
        dependent = [name for name in honest if direct.can_remove(network, name, honest, ())]
        found = direct.quorums(network, faulty)
        if dependent:
            self.assertEqual(result, ("dependent", min(dependent)))
        elif direct.have_common_nodes(found):
            self.assertEqual(len(result), 2)
            self.assertEqual(result[0], "tolerated")
            self.assertTrue(direct.is_whole_certificate(network, result[1], faulty))
        else:
            self.assertEqual(len(result), 3)
            self.assertEqual(result[0], "disjoint")
            self.assertIn(result[1], found)
            self.assertIn(result[2], found)
            self.assertFalse(set(result[1]) & set(result[2]))
        self.assertEqual(result[0] == "tolerated", direct.tolerates(network, faulty))
        return result[0]

    def test_example(self):
        self.assertEqual(tolerance(PAIR, ["b"]), ("dependent", "a"))

    def test_every_faulty_set(self):
        for network in NAMED:
            for faulty in subsets(network.node_names()):
                self.check(network, faulty)

    def test_words(self):
        self.assertEqual(self.check(FOUR, ()), "tolerated")
        self.assertEqual(self.check(FOUR, ["c"]), "tolerated")
        self.assertEqual(self.check(FOUR, ["c", "a"]), "dependent")
        self.assertEqual(self.check(APART, []), "disjoint")
        self.assertEqual(self.check(TRIO, ["c"]), "disjoint")
        self.assertEqual(self.check(EIGHT, ["c", "a", "c"]), "tolerated")
        self.assertEqual(self.check(EIGHT, ["c", "a", "b"]), "dependent")

    def test_no_honest_node_and_no_node(self):
        for network in NAMED:
            result = tolerance(network, network.node_names())
            self.assertIn(result, (("tolerated", ("empty", "one", ())), ("tolerated", ("empty", "other", ()))))

    def test_the_first_condition_comes_first(self):
        # With d faulty there are disjoint quorums too, but c is not convinced by a, b and c.
        network = Network([("a", (1, ("a",))), ("b", (1, ("b",))), ("c", (1, ("d",))), ("d", (1, ("d",)))])
        self.assertEqual(intersection(network, faulty=["d"])[0], "disjoint")
        self.assertEqual(tolerance(network, ["d"]), ("dependent", "c"))
        self.assertEqual(tolerance(network, [])[0], "disjoint")

    def test_the_smallest_dependent_node(self):
        network = Network([("a", (1, ("a",))), ("c", (1, ("d",))), ("b", (2, ("d", "c"))), ("d", (1, ("d",)))])
        self.assertEqual(tolerance(network, ["d"]), ("dependent", "b"))
        self.assertEqual(tolerance(network, ["d", "b"]), ("dependent", "c"))

    def test_a_node_that_depends_only_through_another_one_is_not_named(self):
        network = Network([("a", (1, ("b",))), ("b", (1, ("c",))), ("c", (1, ("c",)))])
        self.assertEqual(tolerance(network, ["c"]), ("dependent", "b"))

    def test_drawn_networks(self):
        words = []
        for chance, network in drawn_networks(21, range(1, 9), 25):
            for _ in range(4):
                faulty = drawn_set(chance, network.node_names(), chance.choice((0, 0.2, 0.5)))
                words.append(self.check(network, faulty))
        for word in ("tolerated", "dependent", "disjoint"):
            self.assertGreater(words.count(word), 50)

    def test_arguments(self):
        self.assertEqual(tolerance(faulty=("b", "b"), network=PAIR), ("dependent", "a"))
        self.assert_unchanged(tolerance, FOUR, ["b", "a", "b"])
        self.assert_unknown(tolerance, {"network": FOUR}, {"faulty": "set"})
        self.assert_unknown_without_nodes(tolerance, {}, ["faulty"])


class ToleratedSetsTest(ToleranceTestCase):

    def test_example(self):
        self.assertEqual(tolerated_sets(TRIO), ((), ("a", "b", "c")))

    def test_no_node(self):
        self.assertEqual(tolerated_sets(EMPTY), ((),))

    def test_by_a_direct_check(self):
        for network in NAMED:
            self.assertEqual(repr(tolerated_sets(network=network)), repr(direct.tolerated_sets(network)))
        for chance, network in drawn_networks(22, range(1, 7), 8):
            found = tolerated_sets(network)
            self.assertEqual(repr(found), repr(direct.tolerated_sets(network)))
            self.assertIn(network.node_names(), found)

    def test_by_size_and_then_in_ascending_order(self):
        self.assertEqual(tolerated_sets(FOUR), ((), ("a",), ("b",), ("c",), ("d",), ("a", "b", "c", "d")))


class MinimalToleratedTest(ToleranceTestCase):

    def test_example(self):
        self.assertEqual(minimal_tolerated(FOUR, ["a", "b"]), (("a", "b", "c", "d"),))

    def test_a_tolerated_set(self):
        self.assertEqual(minimal_tolerated(FOUR, ["b", "b"]), (("b",),))
        self.assertEqual(minimal_tolerated(EMPTY, []), ((),))

    def test_several_sets(self):
        self.assertEqual(minimal_tolerated(APART, ()), (("a",), ("b",)))

    def test_by_a_direct_check(self):
        several = 0
        for network in (*NAMED, *[network for chance, network in drawn_networks(23, range(1, 7), 5)]):
            tolerated = direct.tolerated_sets(network)
            for faulty in subsets(network.node_names()):
                expected = direct.minimal([nodes for nodes in tolerated if set(faulty) <= set(nodes)])
                self.assertEqual(repr(minimal_tolerated(network, faulty)), repr(expected))
                several += len(expected) > 1
                if direct.have_common_nodes(direct.quorums(network)):
                    self.assertEqual(len(expected), 1)
        self.assertGreater(several, 5)

    def test_arguments(self):
        self.assertEqual(minimal_tolerated(faulty=["a"], network=PAIR), (("a", "b"),))
        self.assert_unchanged(minimal_tolerated, FOUR, ["b", "a", "b"])
        self.assert_unknown(minimal_tolerated, {"network": FOUR}, {"faulty": "set"})
        self.assert_unknown_without_nodes(minimal_tolerated, {}, ["faulty"])


class ClosureTest(ToleranceTestCase):

    def test_example(self):
        self.assertEqual(closure(FOUR, ["a"]), ("a",))

    def test_others(self):
        self.assertEqual(closure(FOUR, ["d", "b", "d"]), ("a", "b", "c", "d"))
        self.assertEqual(closure(FOUR, ()), ())
        self.assertEqual(closure(EMPTY, []), ())
        self.assertEqual(closure(PAIR, ["b"]), ("a", "b"))
        self.assertEqual(closure(ALONE, ["a"]), ("a",))

    def test_by_a_direct_check(self):
        proper = 0
        for network in (*NAMED, *[network for chance, network in drawn_networks(24, range(1, 7), 8)]):
            tolerated = direct.tolerated_sets(network)
            for faulty in subsets(network.node_names()):
                if direct.have_common_nodes(direct.quorums(network)):
                    expected = set.intersection(*[set(nodes) for nodes in tolerated if set(faulty) <= set(nodes)])
                    self.assertEqual(repr(closure(network, faulty)), repr(tuple(sorted(expected))))
                    proper += set(faulty) < expected < set(network.node_names())
                else:
                    self.assert_disjoint(network, closure, faulty)
        self.assertGreater(proper, 5)

    def test_disjoint_quorums(self):
        for faulty in ((), ["a"], ["b", "a"]):
            self.assert_disjoint(APART, closure, faulty)
        with self.assertRaises(DisjointQuorums) as caught:
            closure(APART, ())
        self.assertEqual({caught.exception.one, caught.exception.other}, {("a",), ("b",)})

    def test_unknown_nodes_come_first(self):
        self.assert_raises(UnknownNode, {"name": "z"}, closure, APART, ["a", "z"])

    def test_arguments(self):
        self.assertEqual(closure(faulty=["a"], network=PAIR), ("a", "b"))
        self.assert_unchanged(closure, FOUR, ["b", "a", "b"])
        self.assert_unknown(closure, {"network": FOUR}, {"faulty": "set"})
        self.assert_unknown_without_nodes(closure, {}, ["faulty"])


class FatalAndGuardianSetsTest(ToleranceTestCase):

    def fatal_by_check(self, network):
        """All fatal sets, not only the smallest ones."""
        names = network.node_names()
        tolerated = [set(nodes) for nodes in direct.tolerated_sets(network)]
        return [nodes for nodes in subsets(names)
                if set.intersection(*[other for other in tolerated if set(nodes) <= other]) == set(names)]

    def test_examples(self):
        self.assertEqual(
            fatal_sets(FOUR), (("a", "b"), ("a", "c"), ("a", "d"), ("b", "c"), ("b", "d"), ("c", "d"))
        )
        self.assertEqual(
            guardian_sets(FOUR), (("a", "b", "c"), ("a", "b", "d"), ("a", "c", "d"), ("b", "c", "d"))
        )

    def test_no_node(self):
        self.assertEqual(fatal_sets(EMPTY), ((),))
        self.assertEqual(guardian_sets(EMPTY), ())

    def test_single_nodes(self):
        self.assertEqual(fatal_sets(ALONE), (("a",),))
        self.assertEqual(guardian_sets(ALONE), (("a",),))
        self.assertEqual(fatal_sets(PAIR), (("a",), ("b",)))
        self.assertEqual(guardian_sets(PAIR), (("a", "b"),))
        self.assertEqual(fatal_sets(TRIO), (("a",), ("b",), ("c",)))
        self.assertEqual(guardian_sets(TRIO), (("a", "b", "c"),))

    def test_by_a_direct_check(self):
        sizes = set()
        for network in (*NAMED, *[network for chance, network in drawn_networks(25, range(1, 7), 12)]):
            if direct.have_common_nodes(direct.quorums(network)):
                fatal = self.fatal_by_check(network)
                smallest = direct.minimal(fatal)
                meeting = [nodes for nodes in subsets(network.node_names())
                           if all(set(nodes) & set(other) for other in fatal)]
                self.assertEqual(repr(fatal_sets(network)), repr(smallest))
                self.assertEqual(repr(guardian_sets(network)), repr(direct.minimal(meeting)))
                sizes.update(len(nodes) for nodes in smallest)
            else:
                self.assert_disjoint(network, fatal_sets)
                self.assert_disjoint(network, guardian_sets)
        self.assertTrue({1, 2} <= sizes)

    def test_what_guardian_sets_guard(self):
        for network in (TRIO, FOUR, GROUPS):
            for honest in guardian_sets(network):
                faulty = [name for name in network.node_names() if name not in honest]
                self.assertTrue(any(
                    set(faulty) <= set(nodes) and set(honest) - set(nodes) for nodes in tolerated_sets(network)
                ))

    def test_disjoint_quorums(self):
        self.assert_disjoint(APART, fatal_sets)
        self.assert_disjoint(APART, guardian_sets)

    def test_arguments(self):
        self.assertEqual(fatal_sets(network=PAIR), (("a",), ("b",)))
        self.assertEqual(guardian_sets(network=PAIR), (("a", "b"),))
        self.assert_unchanged(fatal_sets, FOUR)
        self.assert_unchanged(guardian_sets, FOUR)


class RepairsTest(ToleranceTestCase):

    def repairs_by_check(self, network, faulty):
        found = []
        for name, (present, parts) in network.as_rows():
            others = [row for row in network.as_rows() if row[0] != name]
            for count in range(1, len(parts) + 1):
                if count != present and direct.tolerates(Network([*others, (name, (count, parts))]), faulty):
                    found.append((name, count))
        return tuple(found)

    def test_example(self):
        self.assertEqual(repairs(APART, ()), (("a", 2), ("b", 2)))

    def test_no_node(self):
        self.assertEqual(repairs(EMPTY, ()), ())

    def test_every_count_but_the_present_one(self):
        # Every count of a node that is faulty is tolerated, if the others need nobody else.
        network = Network([("a", (1, ("a",))), ("b", (2, ("a", "b", (2, ("a", "b")))))])
        self.assertEqual(repairs(network, ["b"]), (("b", 1), ("b", 3)))
        self.assertEqual(repairs(network.with_node("b", (1, ("a", "b", (2, ("a", "b"))))), ["b", "b"]),
                         (("b", 2), ("b", 3)))

    def test_only_the_outer_count_changes(self):
        network = Network([("a", (1, ((1, ("a", "b")),))), ("b", (1, ((1, ("a", "b")), (2, ("a", "b")))))])
        self.assertEqual(repairs(network, ()), (("b", 2),))

    def test_no_other_count(self):
        self.assertEqual(repairs(PAIR, ()), ())
        self.assert_raises(UnknownNode, {"name": "z"}, repairs, PAIR, ["a", "z"])

    def test_no_honest_node(self):
        self.assertEqual(repairs(TRIO, "abc"), tuple((name, count) for name in "abc" for count in (1, 3)))

    def test_a_network_that_is_tolerated_already(self):
        self.assertEqual(repairs(FOUR, ()), tuple((name, count) for name in "abcd" for count in (2, 4)))

    def test_drawn_networks_by_a_direct_check(self):
        counts = []
        for chance, network in drawn_networks(26, range(1, 7), 15):
            faulty = drawn_set(chance, network.node_names(), chance.choice((0, 0.2, 0.4)))
            expected = self.repairs_by_check(network, faulty)
            self.assertEqual(repr(repairs(network, faulty)), repr(expected))
            counts.append(len(expected))
            if any(name in faulty for name, count in expected):
                counts.append("faulty")
        self.assertGreater(counts.count("faulty"), 5)
        self.assertGreater(counts.count(0), 5)

    def test_eight_nodes(self):
        network = EIGHT.with_node("a", (1, ("b", "c")))
        self.assertEqual(repr(repairs(network, ["a", "h"])), repr(self.repairs_by_check(network, ["a", "h"])))
        self.assertEqual(repairs(EIGHT.with_node("c", (8, tuple("abcdefgh"))), ["h"]),
                         (("c", 3), ("c", 4), ("c", 5), ("c", 6), ("c", 7)))

    def test_arguments(self):
        self.assertEqual(repairs(faulty=(), network=APART), (("a", 2), ("b", 2)))
        self.assert_unchanged(repairs, FOUR, ["b", "a", "b"])
        self.assert_unknown(repairs, {"network": FOUR}, {"faulty": "set"})
        self.assert_unknown_without_nodes(repairs, {}, ["faulty"])


class DependentNodesTest(ToleranceTestCase):

    def test_example(self):
        self.assertEqual(dependent_nodes(PAIR, ["b"]), ("a",))

    def test_faulty_nodes_do_not_agree_here(self):
        self.assertEqual(dependent_nodes(TRIO, ["b", "c"]), ("a",))
        self.assertEqual(dependent_nodes(TRIO, ["c"]), ())
        self.assertEqual(dependent_nodes(TRIO, "abc"), ())
        self.assertEqual(dependent_nodes(EMPTY, ()), ())

    def test_a_node_set_and_not_an_order(self):
        network = Network([("a", (1, ("b",))), ("b", (1, ("c",))), ("c", (1, ("c",))), ("d", (1, ("d",)))])
        self.assertEqual(dependent_nodes(network, ["c"]), ("a", "b"))

    def test_by_a_direct_check(self):
        for chance, network in drawn_networks(27, range(1, 9), 20):
            for _ in range(4):
                faulty = drawn_set(chance, network.node_names(), 0.4)
                honest = direct.honest_nodes(network, faulty)
                inside = [nodes for nodes in direct.quorums(network) if set(nodes) <= set(honest)]
                expected = tuple(sorted(set(honest) - set(itertools.chain(*inside))))
                self.assertEqual(repr(dependent_nodes(network, faulty)), repr(expected))
                self.assertEqual(expected == (), tolerance(network, faulty)[0] != "dependent")

    def test_arguments(self):
        self.assertEqual(dependent_nodes(faulty=["b"], network=PAIR), ("a",))
        self.assert_unchanged(dependent_nodes, FOUR, ["b", "a", "b"])
        self.assert_unknown(dependent_nodes, {"network": FOUR}, {"faulty": "set"})
        self.assert_unknown_without_nodes(dependent_nodes, {}, ["faulty"])


class SmallNetworksTest(ToleranceTestCase):

    def test_networks_somewhat_beyond_the_limit(self):
        network = Network([(name, (5, tuple("abcdefg"))) for name in "abcdefg"])
        self.assertEqual(tolerated_sets(network)[:3], ((), ("a",), ("b",)))
        self.assertEqual(closure(network, ["a", "b"]), ("a", "b"))
        self.assertEqual(fatal_sets(network), tuple(itertools.combinations("abcdefg", 3)))

    def test_two_networks_in_turn(self):
        for _ in range(2):
            self.assertEqual([closure(network, ["a"]) for network in (FOUR, PAIR, TRIO)],
                             [("a",), ("a", "b"), ("a", "b", "c")])


if __name__ == "__main__":
    unittest.main()
