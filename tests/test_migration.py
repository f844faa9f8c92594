"""Promises [84] and [85], and [2] as far as it bears on them."""

import itertools
import random
import unittest

from oathmoot.networks import Network
from oathmoot.registry import Registry, is_migration, migration
from tests.cases import RaisingTestCase
from tests.registry_model import RegistryModel, outcome
from tests.samples import (
    APART, BROKEN_REQUIREMENTS, FOUR, OTHER_VALUES, PAIR, REQUIREMENTS, TRIO, drawn_network, drawn_requirement, nested,
    subsets, written_names,
)

EMPTY = Network()
SELF = (1, ("a",))


def used(network, names):
    """The edges of [84] among these nodes of a network."""
    return {name: {other for other in written_names(network.requirement_of(name)) if other in names and other != name}
            for name in names}


def has_cycle(edges, left):
    """Whether some node among those left leads back to itself."""
    for start in left:
        reached, waiting = set(), [start]
        while waiting:
            for name in edges[waiting.pop()] & set(left):
                if name == start:
                    return True
                if name not in reached:
                    reached.add(name)
                    waiting.append(name)
    return False


def fewest_to_remove(edges):
    for nodes in subsets(edges):
        if not has_cycle(edges, [name for name in edges if name not in nodes]):
            return len(nodes)


def count_by_words(one, other):
    """The length of a shortest migration, as [84] counts it."""
    first, second = dict(one.as_rows()), dict(other.as_rows())
    only_one, only_other = sorted(set(first) - set(second)), sorted(set(second) - set(first))
    different = [name for name in first if name in second and first[name] != second[name]]
    cycles = fewest_to_remove(used(other, only_other)) + fewest_to_remove(used(one, only_one))
    return len(only_one) + len(only_other) + len(different) + cycles


def leads_to(one, other, operations):
    """Whether a registry with the first network can perform the operations and then has the second one."""
    model = RegistryModel()
    model.rows = dict(one.as_rows())
    for operation in operations:
        if not isinstance(operation, (tuple, list)) or not operation:
            return False
        if operation[0] not in ("join", "change", "leave"):
            return False
        if len(operation) != (2 if operation[0] == "leave" else 3) or not isinstance(operation[1], str):
            return False
        if not isinstance(outcome(model, operation), str):
            return False
    return model.network() == other


def shortest_by_search(one, other, requirements, most):
    """The length of a shortest migration with these requirements, found by trying all operations."""
    waiting = {one.as_rows()}
    seen = set(waiting)
    for length in range(most + 1):
        if other.as_rows() in waiting:
            return length
        after = set()
        for rows in waiting:
            for name, requirement in requirements:
                for operation in (("join", name, requirement), ("change", name, requirement), ("leave", name)):
                    model = RegistryModel()
                    model.rows = dict(rows)
                    if isinstance(outcome(model, operation), str):
                        after.add(tuple(sorted(model.rows.items())))
        waiting = after - seen
        seen |= after
    return None


def renamed(network, names):
    """The network with other names for its nodes."""
    by_name = dict(zip(network.node_names(), names))

    def rename(part):
        return by_name[part] if isinstance(part, str) else (part[0], tuple(rename(inner) for inner in part[1]))

    return Network([(by_name[name], rename(requirement)) for name, requirement in network.as_rows()])


def drawn_pairs(seed, times):
    """Pairs of networks that have some, all or no nodes in common, at most 8 together."""
    chance = random.Random(seed)
    for _ in range(times):
        names = chance.sample("abcdefgh", chance.randint(0, 8))
        one = chance.sample(names, chance.randint(0, len(names)))
        other = [name for name in names if name not in one or chance.random() < 0.6]
        networks = []
        for nodes in (one, other):
            networks.append(Network([(name, drawn_requirement(chance, nodes)) for name in nodes]))
        if chance.random() < 0.5:
            # Common nodes that keep their requirements, where the other network has all nodes that these use.
            rows = dict(networks[1].as_rows())
            for name, requirement in networks[0].as_rows():
                if name in rows and set(written_names(requirement)) <= set(rows):
                    rows[name] = requirement
            networks[1] = Network(rows.items())
        yield chance, networks[0], networks[1]


class MigrationTest(RaisingTestCase):

    def check_migration(self, one, other):
        found = migration(one, other)
        self.assertIsInstance(found, tuple)
        self.assertTrue(leads_to(one, other, found))
        self.assertEqual(len(found), count_by_words(one, other))
        self.assertIs(is_migration(one, other, found), True)
        self.assertIs(is_migration(one, other, [list(operation) for operation in found]), True)
        for operation in found:
            self.assertIsInstance(operation, tuple)
        return found

    def test_examples(self):
        self.assertEqual(repr(migration(PAIR, PAIR)), "()")
        self.assertEqual(len(self.check_migration(EMPTY, PAIR)), 3)
        shown = (("join", "a", SELF), ("join", "b", SELF), ("change", "a", (1, ("b",))))
        self.assertIs(is_migration(EMPTY, PAIR, shown), True)
        self.assertIs(is_migration(PAIR, EMPTY, [("leave", "a"), ("leave", "b")]), False)

    def test_there_and_back(self):
        for one, other in itertools.permutations((EMPTY, TRIO, FOUR, PAIR, APART), 2):
            there, back = self.check_migration(one, other), self.check_migration(other, one)
            self.assertIs(is_migration(one, one, (*there, *back)), True)

    def test_drawn_networks(self):
        lengths = []
        for chance, one, other in drawn_pairs(151, 300):
            lengths.append(len(self.check_migration(one, other)))
            self.check_migration(other, one)
        self.assertGreater(max(lengths), 10)

    def test_networks_to_themselves(self):
        chance = random.Random(152)
        for size in range(9):
            network = drawn_network(chance, size) if size else EMPTY
            self.assertEqual(repr(self.check_migration(network, Network(network.as_rows()))), "()")

    def test_cycles_among_those_that_join_and_leave(self):
        ring = Network([(name, (1, ("abcdefgh"[(at + 1) % 8],))) for at, name in enumerate("abcdefgh")])
        for network, count in (
            (ring, 9), (Network([(name, (8, tuple("abcdefgh"))) for name in "abcdefgh"]), 15),
            (Network([(name, (1, (name,))) for name in "abcdefgh"]), 8), (PAIR, 3), (TRIO, 5),
            # Two rings that meet in one node need one preliminary requirement, two apart need two.
            (Network([("a", (2, ("b", "c"))), ("b", (1, ("a",))), ("c", (1, ("a",)))]), 4),
            (Network([("a", (1, ("b",))), ("b", (1, ("a",))), ("c", (1, ("d",))), ("d", (1, ("c",)))]), 6),
            # A chain needs none, in whatever order the names are.
            (Network([("a", (1, ("b",))), ("b", (1, ("c",))), ("c", (1, ("c",)))]), 3),
            (Network([("c", (1, ("b",))), ("b", (1, ("a",))), ("a", SELF)]), 3),
        ):
            self.assertEqual(len(self.check_migration(EMPTY, network)), count)
            self.assertEqual(len(self.check_migration(network, EMPTY)), count)

    def test_one_network_leaves_as_another_joins(self):
        for first, second in itertools.product((PAIR, TRIO, FOUR), repeat=2):
            other = renamed(second, "efgh")
            expected = len(migration(first, EMPTY)) + len(migration(EMPTY, other))
            self.assertEqual(len(self.check_migration(first, other)), expected)

    def test_nodes_that_stay(self):
        # b and c stay; b used the node that leaves, and c uses the node that joins.
        one = Network([("a", (1, ("b",))), ("b", (1, ("a",))), ("c", (1, ("c",)))])
        other = Network([("b", (1, ("b",))), ("c", (1, ("d",))), ("d", (1, ("c",)))])
        self.assertEqual(len(self.check_migration(one, other)), 4)
        self.assertEqual(len(self.check_migration(other, one)), 4)

    def test_no_shorter_one_by_a_search(self):
        chance = random.Random(153)
        for _ in range(40):
            one = drawn_network(chance, chance.randint(1, 2))
            other = renamed(drawn_network(chance, chance.randint(1, 2)), chance.choice(("ab", "bc", "ca", "cd")))
            rows = {*one.as_rows(), *other.as_rows()}
            rows |= {(name, (1, (name,))) for name, requirement in rows}
            expected = len(self.check_migration(one, other))
            self.assertEqual(shortest_by_search(one, other, sorted(rows, key=repr), expected), expected)

    def test_a_registry_can_perform_it(self):
        registry = Registry()
        for chance, one, other in drawn_pairs(154, 20):
            for network in (one, other):
                for operation in migration(registry.current_network(), network):
                    getattr(registry, operation[0])(*operation[1:])
                self.assertTrue(registry.current_network() == network)

    def test_requirements_of_every_form(self):
        for requirement in REQUIREMENTS:
            names = sorted({"a", *written_names(requirement)})
            network = Network([(name, requirement if name == "a" else (1, (name,))) for name in names])
            self.check_migration(EMPTY, network)
            self.check_migration(network, Network([("a", SELF)]))

    def test_arguments(self):
        self.assertEqual(repr(migration(other=PAIR, one=PAIR)), "()")
        one, other = Network([("a", SELF)]), Network([("b", (1, ("b",)))])
        found = migration(other=other, one=one)
        self.assertTrue(leads_to(one, other, found))
        self.assertEqual(repr(migration(one, other)), repr(found))
        self.assertEqual(one.as_rows(), (("a", SELF),))
        self.assertIs(is_migration(operations=found, other=other, one=one), True)
        self.assertIs(is_migration(operations=found, other=one, one=other), False)


class IsMigrationTest(RaisingTestCase):

    STEPS = (("join", "a", SELF), ("join", "b", SELF), ("change", "a", (1, ("b",))))

    def check(self, one, other, operations, expected):
        self.assertIs(is_migration(one, other, operations), expected, operations)
        if isinstance(operations, (tuple, list)):
            self.assertIs(is_migration(one, other, tuple(operations)), expected, operations)
            self.assertIs(is_migration(one, other, list(operations)), expected, operations)

    def test_longer_ways(self):
        longer = (("join", "c", (1, ("c",))), *self.STEPS, ("change", "a", (1, ("c",))), ("change", "a", (1, ("b",))),
                  ("leave", "c"))
        self.check(EMPTY, PAIR, longer, True)
        self.check(EMPTY, PAIR, longer[:-1], False)
        back = (("change", "b", (1, ("b",))), ("leave", "a"), ("leave", "b"))
        self.check(EMPTY, PAIR, self.STEPS + back + self.STEPS, True)
        self.check(EMPTY, PAIR, (self.STEPS + back) * 16 + self.STEPS, True)
        self.check(EMPTY, EMPTY, (self.STEPS + back) * 16, True)

    def test_no_operations(self):
        self.check(PAIR, PAIR, (), True)
        self.check(PAIR, TRIO, [], False)

    def test_operations_that_change_nothing(self):
        self.check(PAIR, PAIR, [("change", "a", (1, ("b",)))], True)

    def test_the_whole_network_counts(self):
        self.check(EMPTY, PAIR, self.STEPS, True)
        self.check(EMPTY, PAIR.with_node("a", SELF), self.STEPS[:2], True)
        self.check(EMPTY, PAIR, self.STEPS[:2], False)
        self.check(EMPTY, PAIR.with_node("c", SELF), self.STEPS, False)

    def changed(self, operations):
        others = ("a", "b", "z", "", "A", "join", "change", "leave", "start", SELF, (1, ("b",)), (1, ("z",)),
                  [1, ("a",)],
                  (1, ["a"]), (True, ("a",)), 7, None, (), [], ["a"], ("a",))
        for at, operation in enumerate(operations):
            rest = (*operations[:at], *operations[at + 1:])
            yield rest
            yield (*operations[:at], operation, *operations[at:])
            for place in range(len(operations)):
                yield (*rest[:place], operation, *rest[place:])
            for value in (list(operation), operation[:-1], (*operation, SELF), operation[1:], (operation,), (), None, 7,
                          "join", ("start", "s", (), ("x",)), ("close", "s"), ("exchange", "s", ()), [operation]):
                yield (*operations[:at], value, *operations[at + 1:])
                yield (*operations[:at], value, *operations[at:])
            for place, value in itertools.product(range(len(operation)), others):
                yield (*operations[:at], (*operation[:place], value, *operation[place + 1:]), *operations[at + 1:])

    def check_changed(self, one, other, changes):
        answers = []
        for operations in changes:
            expected = leads_to(one, other, operations)
            self.check(one, other, operations, expected)
            answers.append(expected)
        return answers

    def test_changed_operations(self):
        self.assertEqual({True, False}, set(self.check_changed(EMPTY, PAIR, self.changed(self.STEPS))))
        back = migration(PAIR, EMPTY)
        self.assertEqual({True, False}, set(self.check_changed(PAIR, EMPTY, self.changed(back))))

    def test_drawn_migrations_changed(self):
        answers = []
        for chance, one, other in drawn_pairs(155, 40):
            changes = list(self.changed(migration(one, other)))
            answers += self.check_changed(one, other, chance.sample(changes, min(40, len(changes))))
        self.assertGreater(answers.count(True), 50)
        self.assertGreater(answers.count(False), 500)

    def test_lists_in_requirements(self):
        for wrong in ([1, ("a",)], (1, ["a"]), [1, ["a"]], (1, ([1, ("a",)],))):
            self.check(EMPTY, Network([("a", SELF)]), [("join", "a", wrong)], False)
            self.check(EMPTY, Network([("a", SELF)]), [("join", "a", SELF), ("change", "a", wrong)], False)
        self.check(EMPTY, Network([("a", SELF)]), [["join", "a", SELF]], True)

    def test_other_kinds_of_operations(self):
        for operation in (("start", "s", (), ("x",)), ("close", "s"), ("nominate", "s", "a", "x"), ("undo",)):
            self.check(PAIR, PAIR, [operation], False)
        self.check(PAIR, PAIR, [("start", "s", (), ("x",)), ("close", "s")], False)

    def test_names_and_requirements_of_every_kind(self):
        for value in (*OTHER_VALUES, ["a"], ("a",), [["a"]], nested("a", 39)):
            for operation in (("join", value, SELF), ("change", value, SELF), ("leave", value), (value, "a", SELF),
                              (value, "a")):
                self.check(PAIR, PAIR, [operation], False)
        for value in (*OTHER_VALUES, *BROKEN_REQUIREMENTS.values()):
            self.check(PAIR, PAIR, [("change", "a", (1, ("b",))), ("join", "c", value), ("leave", "c")], False)
            self.check(PAIR, PAIR, [("change", "a", value), ("change", "a", (1, ("b",)))], False)

    def test_values_of_every_kind(self):
        for value in (*OTHER_VALUES, self.STEPS[0], list(self.STEPS[0]), "join", nested(self.STEPS, 30)):
            if value not in ((), []):
                self.check(PAIR, PAIR, value, False)

    def test_nothing_is_changed(self):
        operations = [["join", "a", SELF], ["leave", "a"]]
        self.assert_unchanged(lambda steps: is_migration(EMPTY, EMPTY, steps), operations)


if __name__ == "__main__":
    unittest.main()
