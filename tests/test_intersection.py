"""Promises [27] to [30], and [2], [3] and [20] as far as they bear on intersection.py."""

import itertools
import random
import unittest

from oathmoot.intersection import are_disjoint_quorums, intersection, is_intersection_certificate
from oathmoot.networks import Network
from tests import direct
from tests.cases import RaisingTestCase
from tests.samples import APART, FOUR, OTHER_VALUES, PAIR, TRIO, drawn_cases, nested, subsets

EMPTY = Network()
PAIR_CERTIFICATE = ("split", "a", ("empty", "one", ("b",)), ("empty", "other", ("b",)))
EIGHT = Network([(name, (5, tuple("abcdefgh"))) for name in "abcdefgh"])
TWO_HALVES = Network(
    [(name, (3, ("a", "b", "c", "d"))) for name in "abcd"] + [(name, (3, ("e", "f", "g", "h"))) for name in "efgh"]
)


def as_lists(value):
    """The value with a list in the place of each tuple."""
    return [as_lists(entry) for entry in value] if isinstance(value, tuple) else value


def is_all_tuples(value):
    if isinstance(value, tuple):
        return all(is_all_tuples(entry) for entry in value)
    return isinstance(value, str)


def broken_orders(order):
    yield order[:-1]
    yield order[1:]
    yield (*order, "z")
    yield (*order, "a")
    yield (*order, *order[-1:])
    yield order[:1] + order
    yield (*order, "d")
    yield order[::-1]
    yield order[1:2] + order[:1] + order[2:]
    yield order[:-1] + ("z",)
    yield order[:-1] + (None,)
    yield order[:-1] + (["a"],)
    yield "".join(order)
    yield (order,)
    yield None
    yield 0


def broken_here(certificate, names):
    """The certificate with one fault at its top."""
    yield certificate[:-1]
    yield (*certificate, certificate[-1])
    yield certificate[1:]
    for word in ("split", "empty", "", "Split", "intersecting", "disjoint", "one", None, True, ("split",), ["empty"]):
        yield (word, *certificate[1:])
    if certificate[0] == "split":
        word, name, first, second = certificate
        for other in (*names, "z", "", "A", None, 1, True, ["a"], ("a",)):
            yield (word, other, first, second)
        yield (word, name, second, first)
        yield (word, name, first, first)
        yield (word, name, second, second)
        for value in (None, (), [], "empty", ("empty",), ("empty", "one"), certificate):
            yield (word, name, value, second)
            yield (word, name, first, value)
    else:
        word, side, order = certificate
        for other in ("one", "other", "", "both", "One", None, 1, True, ("one",), ["other"]):
            yield (word, other, order)
        for other in broken_orders(order):
            yield (word, side, other)


def broken(certificate, names):
    """The certificate with one fault, at each place in turn."""
    yield from broken_here(certificate, names)
    if certificate[0] == "split":
        word, name, first, second = certificate
        for value in broken(first, names):
            yield (word, name, value, second)
        for value in broken(second, names):
            yield (word, name, first, value)


class IntersectionTest(RaisingTestCase):

    def check(self, network, faulty=()):
        """The result is of one of the two forms and true, by a direct check; return its word."""
        result = intersection(network, faulty=faulty)
        self.assertTrue(is_all_tuples(result))
        found = direct.quorums(network, faulty)
        if direct.have_common_nodes(found):
            word, certificate = result
            self.assertEqual(word, "intersecting")
            self.assertTrue(direct.is_whole_certificate(network, certificate, faulty))
            self.assertIs(is_intersection_certificate(network, certificate, faulty=faulty), True)
        else:
            word, one, other = result
            self.assertEqual(word, "disjoint")
            self.assertIn(one, found)
            self.assertIn(other, found)
            self.assertFalse(set(one) & set(other))
            self.assertIs(are_disjoint_quorums(network, one, other, faulty=faulty), True)
        return result[0]

    def test_example(self):
        self.assertIn(intersection(APART), (("disjoint", ("a",), ("b",)), ("disjoint", ("b",), ("a",))))

    def test_small_networks_with_every_faulty_set(self):
        for network in (EMPTY, PAIR, APART, TRIO, FOUR, Network([("a", (1, ("a",)))])):
            for faulty in subsets(network.node_names()):
                self.check(network, faulty)

    def test_no_nodes_and_all_nodes_faulty(self):
        for network, faulty in ((EMPTY, ()), (TRIO, ("b", "a", "c")), (EIGHT, list("hgfedcba"))):
            self.assertIn(intersection(network, faulty=faulty), (
                ("intersecting", ("empty", "one", ())), ("intersecting", ("empty", "other", ())),
            ))

    def test_eight_nodes(self):
        self.assertEqual(self.check(EIGHT), "intersecting")
        self.assertEqual(self.check(EIGHT, ["h"]), "intersecting")
        self.assertEqual(self.check(EIGHT, ["h", "a"]), "disjoint")
        self.assertEqual(self.check(TWO_HALVES), "disjoint")
        for count in range(1, 9):
            network = Network([(name, (count, tuple("abcdefgh"))) for name in "abcdefgh"])
            self.assertEqual(self.check(network), "intersecting" if count > 4 else "disjoint")

    def test_drawn_networks(self):
        words = [self.check(network, faulty) for chance, network, faulty in drawn_cases(11, range(1, 9), 50)]
        self.assertGreater(words.count("intersecting"), 100)
        self.assertGreater(words.count("disjoint"), 100)

    def test_two_networks_in_turn(self):
        for _ in range(3):
            self.assertEqual([self.check(network) for network in (APART, PAIR, TRIO)],
                             ["disjoint", "intersecting", "intersecting"])

    def test_arguments(self):
        self.assertEqual(intersection(faulty=["c"], network=TRIO)[0], "disjoint")
        self.assert_by_name_only(intersection, TRIO, ["c"])
        self.assert_unchanged(intersection, FOUR, faulty=["c", "a", "c"])

    def test_unknown_nodes(self):
        self.assert_unknown(intersection, {"network": FOUR}, {"faulty": "set"})
        self.assert_unknown_without_nodes(intersection, {}, ["faulty"])


class AreDisjointQuorumsTest(RaisingTestCase):

    def test_example(self):
        self.assertIs(are_disjoint_quorums(TRIO, ["a"], ["b"], faulty=["c"]), True)

    def test_no_quorums_or_common_nodes(self):
        self.assertIs(are_disjoint_quorums(TRIO, ["a"], ["b"]), False)
        self.assertIs(are_disjoint_quorums(TRIO, ["a", "b"], ["c"]), False)
        self.assertIs(are_disjoint_quorums(TRIO, ["c"], ["a", "b"]), False)
        self.assertIs(are_disjoint_quorums(TRIO, ["a", "b"], ["b", "c"]), False)
        self.assertIs(are_disjoint_quorums(APART, ["a"], ["a"]), False)
        self.assertIs(are_disjoint_quorums(APART, ["a", "b"], ["b"]), False)
        self.assertIs(are_disjoint_quorums(APART, ["a"], []), False)
        self.assertIs(are_disjoint_quorums(APART, [], ["a"]), False)
        self.assertIs(are_disjoint_quorums(EMPTY, [], []), False)

    def test_faulty_nodes_are_in_no_quorum(self):
        self.assertIs(are_disjoint_quorums(TRIO, ["a"], ["b", "c"], faulty=["c"]), False)
        self.assertIs(are_disjoint_quorums(APART, ["a"], ["b"], faulty=["b"]), False)

    def test_all_pairs_by_a_direct_check(self):
        answers = set()
        for chance, network, faulty in drawn_cases(12, range(1, 6), 8):
            found = set(direct.quorums(network, faulty))
            for one, other in itertools.product(subsets(network.node_names()), repeat=2):
                answer = one in found and other in found and not set(one) & set(other)
                answers.add(answer)
                self.assertIs(are_disjoint_quorums(network, one, other, faulty=faulty), answer)
        self.assertEqual(answers, {True, False})

    def test_eight_nodes_in_any_order_with_duplicates(self):
        self.assertIs(are_disjoint_quorums(TWO_HALVES, list("cabc"), tuple("hehgg")), True)
        self.assertIs(are_disjoint_quorums(TWO_HALVES, list("cabc"), tuple("heh")), False)
        self.assertIs(are_disjoint_quorums(TWO_HALVES, list("caac"), tuple("hehg"), faulty=["d", "d"]), True)

    def test_arguments(self):
        self.assertIs(are_disjoint_quorums(other=["b"], one=["a"], faulty=["c"], network=TRIO), True)
        self.assert_by_name_only(are_disjoint_quorums, TRIO, ["a"], ["b"], ["c"])
        self.assert_unchanged(are_disjoint_quorums, TWO_HALVES, list("cabc"), list("hehg"), faulty=["d", "d"])

    def test_unknown_nodes(self):
        self.assert_unknown(are_disjoint_quorums, {"network": FOUR}, {"one": "set", "other": "set", "faulty": "set"})
        self.assert_unknown_without_nodes(are_disjoint_quorums, {}, ["one", "other", "faulty"])


class CertificateTest(RaisingTestCase):

    def check(self, network, value, faulty=()):
        answer = direct.is_whole_certificate(network, value, faulty)
        self.assertIs(is_intersection_certificate(network, value, faulty=faulty), answer, value)
        return answer

    def test_example(self):
        self.assertIs(is_intersection_certificate(PAIR, PAIR_CERTIFICATE), True)

    def test_lists_for_tuples(self):
        for network, faulty in ((PAIR, ()), (FOUR, ["a"]), (EIGHT, ()), (EMPTY, ())):
            certificate = intersection(network, faulty=faulty)[1]
            self.assertIs(is_intersection_certificate(network, as_lists(certificate), faulty=faulty), True)
        word, name, first, second = PAIR_CERTIFICATE
        for value in ([word, name, first, second], (word, name, list(first), second), (word, name, first, list(second)),
                      (word, name, ("empty", "one", ["b"]), second), (word, name, first, ["empty", "other", ["b"]])):
            self.assertIs(is_intersection_certificate(PAIR, value), True)

    def test_no_nodes_and_all_nodes_faulty(self):
        for network, faulty in ((EMPTY, ()), (TRIO, ["c", "b", "a", "a"]), (EIGHT, tuple("abcdefgh"))):
            for side in ("one", "other"):
                self.assertTrue(self.check(network, ("empty", side, ()), faulty))
                self.assertTrue(self.check(network, ["empty", side, []], faulty))
                self.assertFalse(self.check(network, ("empty", side, ("a",)), faulty))
                self.assertFalse(self.check(network, ("empty", side, None), faulty))
                empty = ("empty", side, ())
                self.assertFalse(self.check(network, ("split", "a", empty, empty), faulty))

    def test_one_fault_at_a_time(self):
        cases = [(PAIR, ()), (PAIR, ["b"]), (TRIO, ()), (FOUR, ()), (FOUR, ["d"]), (FOUR, ["a"])]
        for network, faulty in cases:
            names = network.node_names()
            result = intersection(network, faulty=faulty)
            self.assertEqual(result[0], "intersecting")
            answers = [self.check(network, value, faulty) for value in broken(result[1], names)]
            self.assertLess(answers.count(True), len(answers) // 3)

    def test_one_fault_at_a_time_in_drawn_networks(self):
        for chance, network, faulty in drawn_cases(13, (3, 4, 5, 6), 20):
            result = intersection(network, faulty=faulty)
            if result[0] == "intersecting":
                values = list(broken(result[1], network.node_names()))
                for value in chance.sample(values, min(60, len(values))):
                    self.check(network, value, faulty)

    def test_one_fault_at_a_time_with_eight_nodes(self):
        chance = random.Random(14)
        certificate = intersection(EIGHT, faulty=["h"])[1]
        for value in chance.sample(list(broken(certificate, EIGHT.node_names())), 300):
            self.check(EIGHT, value, ["h"])

    def test_a_name_that_is_split_further_up(self):
        # Without this rule the same split could be repeated for ever; the inner split removes nothing new.
        one, other = ("empty", "one", ("b",)), ("empty", "other", ("b",))
        repeated = ("split", "a", ("split", "a", one, one), other)
        self.assertIs(is_intersection_certificate(PAIR, repeated), False)
        repeated = ("split", "a", one, ("split", "a", other, other))
        self.assertIs(is_intersection_certificate(PAIR, repeated), False)

    def test_a_name_that_is_split_on_another_branch(self):
        certificate = ("split", "a", ("split", "b", ("empty", "one", ()), ("empty", "one", ("b",))),
                       ("split", "b", ("empty", "other", ("b",)), ("empty", "other", ())))
        self.assertIs(is_intersection_certificate(PAIR, certificate), True)

    def test_a_split_that_is_not_needed(self):
        network = Network([("a", (1, ("a",))), ("b", (1, ("a",)))])
        short = ("split", "a", ("empty", "one", ("b",)), ("empty", "other", ("b",)))
        self.assertIs(is_intersection_certificate(network, short), True)
        long = ("split", "b", ("split", "a", ("empty", "one", ()), ("empty", "other", ("b",))),
                ("split", "a", ("empty", "one", ("b",)), ("empty", "other", ())))
        self.assertIs(is_intersection_certificate(network, long), True)

    def test_the_side_decides_which_candidates(self):
        # After a was removed from "one", only the candidates of "one" can be emptied.
        for first in (("empty", "other", ("b",)), ("empty", "other", ("a", "b")), ("empty", "one", ("a", "b"))):
            self.assertIs(is_intersection_certificate(PAIR, ("split", "a", first, PAIR_CERTIFICATE[3])), False)

    def test_the_order_of_removal_counts(self):
        network = Network([("a", (1, ("b",))), ("b", (1, ("c",))), ("c", (1, ("d",))), ("d", (1, ("d",)))])
        good = ("split", "d", ("empty", "one", ("c", "b", "a")), ("empty", "other", ("c", "b", "a")))
        for orders in itertools.product(itertools.permutations("abc"), repeat=2):
            value = ("split", "d", ("empty", "one", orders[0]), ("empty", "other", orders[1]))
            self.assertIs(is_intersection_certificate(network, value), value == good)

    def test_no_certificate_where_quorums_are_disjoint(self):
        leaves = [("empty", side, order) for side in ("one", "other")
                  for size in range(3) for order in itertools.permutations("ab", size)]
        values = list(leaves)
        for _ in range(2):
            pairs = itertools.product(values[:20], repeat=2)
            values += [("split", name, first, second) for name in "ab" for first, second in pairs]
        for value in values:
            self.assertIs(is_intersection_certificate(APART, value), False)

    def test_values_of_every_other_kind(self):
        deep = ("empty", "one", ())
        for _ in range(38):
            deep = ("split", "a", deep, ("empty", "one", ()))
        values = (*OTHER_VALUES, "split", "empty", ("split",), ["empty"], nested("a", 40), nested([], 40), deep,
                  ("split", "a", nested("a", 38), nested("a", 38)), ("empty", "one", nested("a", 38)),
                  ("intersecting", PAIR_CERTIFICATE), (PAIR_CERTIFICATE,), [PAIR_CERTIFICATE], repr(PAIR_CERTIFICATE),
                  ("empty", "one", "ab"), ("empty", "one", ("a", "b")), ("empty", "other", ["b", "a"]))
        for network in (PAIR, APART, TRIO):
            for value in values:
                self.assertIs(is_intersection_certificate(network, value), False, value)

    def test_arguments(self):
        value = as_lists(PAIR_CERTIFICATE)
        self.assertIs(self.assert_unchanged(is_intersection_certificate, PAIR, value, faulty=[]), True)
        empty = ("empty", "one", ())
        self.assertIs(is_intersection_certificate(certificate=empty, faulty=["a", "b"], network=PAIR), True)
        self.assert_by_name_only(is_intersection_certificate, PAIR, empty, ["a", "b"])

    def test_unknown_nodes(self):
        for value in (PAIR_CERTIFICATE, None, ("empty", "one", ("z",)), [[]]):
            self.assert_unknown(is_intersection_certificate, {"network": FOUR, "certificate": value}, {"faulty": "set"})
            self.assert_unknown_without_nodes(is_intersection_certificate, {"certificate": value}, ["faulty"])


if __name__ == "__main__":
    unittest.main()
