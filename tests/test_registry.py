"""Promises [73] to [83], and [2], [3], [4] and [20] as far as they bear on registry.py."""

import copy
import itertools
import random
import unittest

from oathmoot.errors import (
    AlreadyVoted, DuplicateNode, DuplicateSlot, DuplicateValue, FaultyNode, InUse, InvalidMessage, InvalidName,
    InvalidNumber, InvalidRequirement, MootError, NothingToRedo, NothingToUndo, NotNominated, NotPrepared, NotSent,
    OwnMessage, UnknownNode, UnknownSlot, UnknownValue,
)
from oathmoot.exchange import exchange
from oathmoot.networks import Network
from oathmoot.registry import Registry, replay
from oathmoot.slots import Slot
from tests.cases import NOT_NODES, RaisingTestCase
from tests.registry_model import (
    WORDS, RegistryModel, drawn_operation, drawn_registry, outcome, state_of, state_of_model,
)
from tests.samples import BROKEN_REQUIREMENTS, OTHER_VALUES, PAIR, REQUIREMENTS, TRIO, nested, written_names
from tests.slot_model import honest_of
from tests.test_messages import ANY_VALUES, BROKEN_MESSAGES

SELF = (1, ("a",))
NEED = (2, ("a", "b", "c"))
NOT_SLOTS = ("t", "zz", "", " ", "S", "s ", "s\n", "s,t", "abcdefghi", "x" * 2000)


def trio_registry():
    """A registry with the network `trio` and an open slot in which c is faulty."""
    registry = Registry()
    for name in "abc":
        registry.join(name, (1, (name,)))
    for name in "abc":
        registry.change(name, NEED)
    registry.start("s", ["c"], ["y", "x"])
    return registry


def decided_registry():
    """A registry in whose slot a and b have decided x."""
    registry = trio_registry()
    for node in "ab":
        registry.nominate("s", node, "x")
    registry.exchange("s", "ab")
    for node in "ab":
        registry.commit("s", node, 1, "x")
    registry.exchange("s", ["b", "a"])
    return registry


class RegistryTestCase(RaisingTestCase):

    def assert_refused(self, registry, error, fields, call, *arguments, **named):
        """The call raises this exception, and the registry stays as it is, with what can be undone and redone."""
        before, twin = state_of(registry), registry.copy()
        self.assert_raises(error, fields, call, *arguments, **named)
        self.assertEqual(state_of(registry), before)
        self.assertTrue(registry == twin)

    def assert_unknown_slot(self, registry, call, *arguments):
        for name in NOT_SLOTS:
            self.assert_refused(registry, UnknownSlot, {"name": name}, call, name, *arguments)


class CreationTest(RegistryTestCase):

    def test_a_new_registry(self):
        registry = Registry()
        self.assertIs(type(registry.current_network()), Network)
        self.assertEqual(len(registry.current_network()), 0)
        for found in (registry.open_slots(), registry.closed_slots(), registry.operations_in_effect()):
            self.assertEqual(repr(found), "()")
        self.assertEqual((len(registry), registry.undo_count(), registry.redo_count()), (0, 0, 0))

    def test_two_registries_have_nothing_in_common(self):
        one, other = Registry(), Registry()
        one.join("a", SELF)
        one.start("s", (), ["x"])
        self.assertEqual((len(other), other.open_slots(), len(other.current_network())), (0, (), 0))

    def test_open_slots_in_ascending_order(self):
        registry = Registry()
        for name in ("t", "abcdefgh", "s", "aa"):
            registry.start(name, (), ["x"])
        self.assertEqual(registry.open_slots(), ("aa", "abcdefgh", "s", "t"))
        self.assertEqual(Registry().open_slots(), ())

    def test_slot_copies(self):
        registry = trio_registry()
        slot = registry.slot_copy("s")
        self.assertIs(type(slot), Slot)
        self.assertTrue(slot == Slot(TRIO, ["c"], ["x", "y"]))
        before = state_of(registry)
        slot.nominate("a", "x")
        self.assertEqual(state_of(registry), before)
        kept = registry.slot_copy(name="s")
        registry.nominate("s", "b", "y")
        self.assertEqual((len(slot), len(kept)), (1, 0))
        self.assert_unknown_slot(registry, registry.slot_copy)
        registry.close("s")
        self.assert_refused(registry, UnknownSlot, {"name": "s"}, registry.slot_copy, "s")


class NetworkOperationsTest(RegistryTestCase):

    def test_examples(self):
        registry = Registry()
        self.assert_refused(registry, UnknownNode, {"name": "b"}, registry.join, "a", (1, ("b",)))
        registry.join("a", SELF)
        self.assert_refused(registry, InvalidRequirement, {"name": "a"}, registry.change, "a", 7)
        registry.join("b", SELF)
        self.assert_refused(registry, InUse, {"name": "a", "user": "b"}, registry.leave, "a")

    def test_join_change_and_leave(self):
        registry = Registry()
        self.assertIsNone(registry.join("b", (1, ("b",))))
        self.assertIsNone(registry.join("a", (2, ("a", "b"))))
        self.assertEqual(registry.current_network().as_rows(), (("a", (2, ("a", "b"))), ("b", (1, ("b",)))))
        self.assertIsNone(registry.change("a", SELF))
        self.assertEqual(registry.current_network().requirement_of("a"), SELF)
        self.assertIsNone(registry.leave("b"))
        self.assertTrue(registry.current_network() == Network([("a", SELF)]))
        self.assertEqual(registry.operations_in_effect(), (
            ("join", "b", (1, ("b",))), ("join", "a", (2, ("a", "b"))), ("change", "a", SELF), ("leave", "b"),
        ))
        self.assertEqual(len(registry), 4)

    def test_networks_that_were_returned_stay(self):
        registry = Registry()
        registry.join("a", SELF)
        network = registry.current_network()
        registry.join("b", SELF)
        registry.change("a", (1, ("b",)))
        self.assertEqual(network.as_rows(), (("a", SELF),))

    def test_join_with_values_of_every_kind(self):
        registry = trio_registry()
        for value in (*OTHER_VALUES, ["a"], ("a",), "A", "abcdefghi", "d\n"):
            for requirement in (SELF, 7, (1, ("z",))):
                self.assert_refused(registry, InvalidName, {"value": value}, registry.join, value, requirement)
        for name in "abc":
            for requirement in (SELF, 7, (1, ("z",))):
                self.assert_refused(registry, DuplicateNode, {"name": name}, registry.join, name, requirement)
        for requirement in (*BROKEN_REQUIREMENTS.values(), *OTHER_VALUES, nested(SELF, 30), [1, ("a",)]):
            self.assert_refused(registry, InvalidRequirement, {"name": "d"}, registry.join, "d", requirement)

    def test_the_smallest_unknown_name(self):
        registry = trio_registry()
        for requirement, name in (((1, ("z", "y", "a")), "y"), ((1, ((1, ("q", "a")), "e")), "e"), ((1, ("e",)), "e")):
            self.assert_refused(registry, UnknownNode, {"name": name}, registry.join, "d", requirement)
            self.assert_refused(registry, UnknownNode, {"name": name}, registry.change, "a", requirement)
        registry.join("d", (1, ("d", "a")))

    def test_change_with_values_of_every_kind(self):
        registry = trio_registry()
        for name in (*NOT_NODES, "d"):
            for requirement in (SELF, 7, (1, ("z",))):
                self.assert_refused(registry, UnknownNode, {"name": name}, registry.change, name, requirement)
        for requirement in (*BROKEN_REQUIREMENTS.values(), *OTHER_VALUES, [1, ("a",)], (1, ["a"])):
            self.assert_refused(registry, InvalidRequirement, {"name": "b"}, registry.change, "b", requirement)

    def test_leave(self):
        registry = trio_registry()
        for name in NOT_NODES:
            self.assert_refused(registry, UnknownNode, {"name": name}, registry.leave, name)
        self.assert_refused(registry, InUse, {"name": "a", "user": "b"}, registry.leave, "a")
        self.assert_refused(registry, InUse, {"name": "b", "user": "a"}, registry.leave, "b")
        registry.change("a", SELF)
        self.assert_refused(registry, InUse, {"name": "a", "user": "b"}, registry.leave, "a")
        registry.change("b", (1, ("b", "c")))
        self.assert_refused(registry, InUse, {"name": "a", "user": "c"}, registry.leave, "a")
        registry.change("c", (1, ("b",)))
        registry.leave("a")
        self.assertEqual(registry.current_network().node_names(), ("b", "c"))

    def test_an_operation_that_changes_nothing(self):
        registry = trio_registry()
        count = len(registry)
        twin = registry.copy()
        registry.change("a", NEED)
        self.assertTrue(registry == twin)
        self.assertEqual((len(registry), registry.operations_in_effect()[-1]), (count + 1, ("change", "a", NEED)))
        self.assertEqual(registry.undo(), ("change", "a", NEED))

    def test_requirements_of_every_form(self):
        for requirement in REQUIREMENTS:
            registry = Registry()
            for name in sorted({"a", *written_names(requirement)}):
                registry.join(name, (1, (name,)))
            registry.change("a", requirement)
            self.assertEqual(registry.current_network().requirement_of("a"), requirement)

    def test_arguments(self):
        registry = Registry()
        registry.join(requirement=SELF, name="a")
        registry.join(name="b", requirement=(1, ("b",)))
        registry.change(requirement=(1, ("b",)), name="a")
        self.assertEqual(registry.current_network().requirement_of("a"), (1, ("b",)))
        registry.leave(name="a")
        self.assertEqual(len(registry), 4)


class StartTest(RegistryTestCase):

    def test_example(self):
        registry = Registry()
        self.assert_refused(registry, DuplicateValue, {"value": "x"}, registry.start, "s", (), ["x", "x"])

    def test_a_slot_on_the_present_network(self):
        registry = trio_registry()
        self.assertIsNone(registry.start("t", ("b", "a", "b"), ("z", "x")))
        self.assertTrue(registry.slot_copy("t") == Slot(TRIO, ["a", "b"], ["x", "z"]))
        self.assertEqual(registry.operations_in_effect()[-2:], (
            ("start", "s", ("c",), ("x", "y")), ("start", "t", ("a", "b"), ("x", "z")),
        ))

    def test_a_slot_keeps_its_network(self):
        registry = trio_registry()
        registry.join("d", (1, ("d",)))
        registry.change("a", (1, ("d",)))
        registry.change("b", (1, ("b",)))
        registry.change("c", (1, ("b",)))
        registry.leave("a")
        self.assertTrue(registry.slot_copy("s").network == TRIO)
        self.assertEqual(registry.nominate("s", "a", "x"), (("voted", "a", (0, "x"), "commit"),))
        self.assert_refused(registry, UnknownNode, {"name": "d"}, registry.nominate, "s", "d", "x")
        self.assert_refused(registry, UnknownNode, {"name": "a"}, registry.start, "t", ["a"], ["x"])
        registry.start("t", ["d"], ["x"])
        self.assertEqual(registry.slot_copy("t").network.node_names(), ("b", "c", "d"))
        self.assertEqual(len(registry.exchange("s", "ab")), 2)

    def test_exceptions_in_their_order(self):
        registry = trio_registry()
        for slot, values in (("t", ["x"]), (7, [7]), ("s", ["x", "x"])):
            for name in NOT_NODES:
                for faulty in ([name], ["a", name, "q"]):
                    self.assert_refused(registry, UnknownNode, {"name": name}, registry.start, slot, faulty, values)
        for slot in (*OTHER_VALUES, "S", ["s"], ("s",), "abcdefghi", "s "):
            for values in (["x"], [7], ["x", "x"]):
                self.assert_refused(registry, InvalidName, {"value": slot}, registry.start, slot, ["a"], values)
        for values in (["x"], [7], ["x", "x"]):
            self.assert_refused(registry, DuplicateSlot, {"name": "s"}, registry.start, "s", (), values)
        for value in (*OTHER_VALUES, "X", ["x"]):
            for values in ([value], ("x", value), [value, "x", "x"]):
                self.assert_refused(registry, InvalidName, {"value": value}, registry.start, "t", (), values)
        self.assert_refused(registry, DuplicateValue, {"value": "y"}, registry.start, "t", (), ["y", "x", "y"])
        self.assert_refused(registry, DuplicateValue, {"value": "x"}, registry.start, "t", (), ["x", "x", 7])

    def test_lists_that_are_changed_afterwards(self):
        registry = trio_registry()
        faulty, values = ["b", "a", "b"], ["z", "x"]
        registry.start("t", faulty, values)
        self.assertEqual((faulty, values), (["b", "a", "b"], ["z", "x"]))
        faulty[:] = ["c"]
        values[:] = ["w"]
        self.assertEqual(registry.operations_in_effect()[-1], ("start", "t", ("a", "b"), ("x", "z")))
        self.assertEqual(registry.slot_copy("t").slot_values(), ("x", "z"))
        nodes = ["c"]
        registry.exchange("t", nodes)
        nodes.append("a")
        self.assertEqual(repr(registry.operations_in_effect()[-1]), repr(("exchange", "t", ("c",))))
        self.assertTrue(replay(registry.operations_in_effect()) == registry)

    def test_arguments(self):
        registry = Registry()
        registry.start(values=["x"], slot="s", faulty=[])
        self.assertEqual(registry.operations_in_effect(), (("start", "s", (), ("x",)),))


class CloseTest(RegistryTestCase):

    def test_example(self):
        registry = Registry()
        registry.start("s", (), ["x"])
        self.assertEqual(repr(registry.close("s")), "()")
        self.assertEqual(registry.closed_slots(), (("s", ()),))

    def test_one_value(self):
        registry = decided_registry()
        self.assertEqual(registry.close(slot="s"), ("x",))
        self.assertEqual(registry.closed_slots(), (("s", ("x",)),))
        self.assertEqual(registry.open_slots(), ())
        self.assertEqual(registry.operations_in_effect()[-1], ("close", "s"))

    def test_several_values_in_ascending_order(self):
        registry = Registry()
        for name in "abc":
            registry.join(name, (1, (name,)))
        registry.start("s", ["c"], ["x", "y", "z"])
        for node, value in (("a", "z"), ("b", "x")):
            registry.nominate("s", node, value)
            registry.prepare("s", node, 1, value)
            registry.commit("s", node, 1, value)
        self.assertEqual(registry.close("s"), ("x", "z"))

    def test_a_value_that_several_nodes_decided(self):
        registry = decided_registry()
        self.assertEqual([registry.slot_copy("s").decided_by(node) for node in "ab"], [("x",), ("x",)])
        self.assertEqual(registry.close("s"), ("x",))

    def test_the_name_of_a_closed_slot_again(self):
        registry = decided_registry()
        registry.close("s")
        registry.start("s", (), ["w"])
        self.assertEqual(registry.open_slots(), ("s",))
        self.assertEqual(registry.slot_copy("s").slot_values(), ("w",))
        self.assertEqual(registry.close("s"), ())
        self.assertEqual(registry.closed_slots(), (("s", ("x",)), ("s", ())))

    def test_in_the_order_of_closing(self):
        registry = Registry()
        for name in "tsu":
            registry.start(name, (), ["x"])
        for name in "stu":
            registry.close(name)
        self.assertEqual(registry.closed_slots(), (("s", ()), ("t", ()), ("u", ())))

    def test_unknown_slots(self):
        registry = trio_registry()
        self.assert_unknown_slot(registry, registry.close)
        registry.close("s")
        self.assert_refused(registry, UnknownSlot, {"name": "s"}, registry.close, "s")


class SlotOperationsTest(RegistryTestCase):

    def test_example(self):
        registry = Registry()
        self.assert_refused(registry, UnknownSlot, {"name": "s"}, registry.nominate, "s", "a", "x")

    def test_unknown_slots_come_first(self):
        registry = trio_registry()
        for call, arguments in (
            (registry.nominate, ("a", "x")), (registry.nominate, ("z", 7)), (registry.prepare, ("a", 1, "x")),
            (registry.prepare, ("z", 7, 7)), (registry.commit, ("a", 1, "x")), (registry.commit, ("z", None, [])),
            (registry.receive, ("a", None)), (registry.receive, ("z", 7)), (registry.exchange, (["a"],)),
            (registry.exchange, (["z", "c"],)),
        ):
            self.assert_unknown_slot(registry, call, *arguments)

    def test_the_exceptions_of_the_slot(self):
        registry = trio_registry()
        registry.nominate("s", "a", "x")
        message = registry.slot_copy("s").message_of("b")
        for error, fields, call, arguments in (
            (FaultyNode, {"name": "c"}, registry.nominate, ("c", 7)),
            (UnknownValue, {"value": "w"}, registry.nominate, ("a", "w")),
            (AlreadyVoted, {"name": "a", "ballot": (0, "x")}, registry.nominate, ("a", "x")),
            (FaultyNode, {"name": "c"}, registry.prepare, ("c", 0, "w")),
            (InvalidNumber, {"value": 7}, registry.prepare, ("a", 7, "w")),
            (UnknownValue, {"value": []}, registry.prepare, ("a", 1, [])),
            (InvalidNumber, {"value": True}, registry.commit, ("a", True, "w")),
            (UnknownValue, {"value": None}, registry.commit, ("a", 1, None)),
            (NotNominated, {"name": "a", "value": "x"}, registry.commit, ("a", 1, "x")),
            (FaultyNode, {"name": "c"}, registry.receive, ("c", None)),
            (InvalidMessage, {"value": None}, registry.receive, ("a", None)),
            (OwnMessage, {"name": "b"}, registry.receive, ("b", message)),
            (NotSent, {"name": "b"}, registry.receive, ("a", ("b", NEED, (((0, "x"), "commit"),), ()))),
            (InvalidMessage, {"value": ("c", NEED, (((0, "w"), "commit"),), ())}, registry.receive,
             ("a", ("c", NEED, (((0, "w"), "commit"),), ()))),
            (FaultyNode, {"name": "c"}, registry.exchange, (["a", "c", "b"],)),
            (UnknownNode, {"name": "z"}, registry.exchange, (["a", "c", "z"],)),
        ):
            self.assert_refused(registry, error, fields, call, "s", *arguments)
        for name in NOT_NODES:
            for call, arguments in ((registry.nominate, (7,)), (registry.prepare, (7, 7)), (registry.commit, (7, 7)),
                                    (registry.receive, (None,))):
                self.assert_refused(registry, UnknownNode, {"name": name}, call, "s", name, *arguments)
            self.assert_refused(registry, UnknownNode, {"name": name}, registry.exchange, "s", ["c", name])

    def test_not_prepared(self):
        registry = decided_registry()
        fields = {"name": "a", "ballot": (2, "x")}
        self.assert_refused(registry, NotPrepared, fields, registry.commit, "s", "a", 2, "x")

    def test_messages_of_every_kind(self):
        registry = trio_registry()
        for value in (*ANY_VALUES, *BROKEN_MESSAGES.values()):
            self.assert_refused(registry, InvalidMessage, {"value": value}, registry.receive, "s", "a", value)

    def test_the_events_of_the_slot(self):
        registry, slot = trio_registry(), Slot(TRIO, ["c"], ["x", "y"])
        told = ("c", (1, ("c",)), (((0, "x"), "commit"),), ())
        for word, arguments in (
            ("nominate", ("a", "x")), ("receive", ("a", told)), ("prepare", ("b", 2, "y")), ("prepare", ("b", 2, "y")),
            ("nominate", ("b", "x")), ("receive", ("b", told)),
        ):
            found = getattr(registry, word)("s", *arguments)
            self.assertEqual(repr(found), repr(getattr(slot, word)(*arguments)))
            self.assertTrue(registry.slot_copy("s") == slot)
            self.assertEqual(registry.operations_in_effect()[-1], (word, "s", *arguments))
        self.assertEqual(registry.exchange("s", ["b", "a", "b"]), exchange(slot, "ab"))
        self.assertEqual(registry.operations_in_effect()[-1], ("exchange", "s", ("a", "b")))
        self.assertTrue(registry.slot_copy("s") == slot)

    def test_operations_that_vote_on_or_deliver_nothing(self):
        registry = trio_registry()
        count = len(registry)
        self.assertEqual(repr(registry.prepare("s", "a", 1, "x")), "()")
        self.assertEqual(repr(registry.exchange("s", [])), "()")
        self.assertEqual(repr(registry.exchange("s", ("b", "b"))), "()")
        self.assertEqual(registry.operations_in_effect()[count:], (
            ("prepare", "s", "a", 1, "x"), ("exchange", "s", ()), ("exchange", "s", ("b",)),
        ))
        self.assertEqual(registry.undo_count(), count + 3)

    def test_slots_do_not_affect_each_other(self):
        registry = trio_registry()
        registry.start("t", (), ["x"])
        registry.nominate("t", "a", "x")
        self.assertEqual((len(registry.slot_copy("s")), len(registry.slot_copy("t"))), (0, 1))
        registry.close("s")
        self.assertEqual(len(registry.slot_copy("t")), 1)

    def test_arguments(self):
        registry = trio_registry()
        registry.nominate(value="x", node="a", slot="s")
        registry.nominate(node="b", slot="s", value="x")
        registry.exchange(nodes=["a", "b"], slot="s")
        self.assertEqual(registry.prepare(value="y", number=1, node="a", slot="s"), (
            ("voted", "a", (1, "x"), "abort"),
        ))
        self.assertEqual(registry.commit(value="x", number=1, node="b", slot="s"), (
            ("voted", "b", (1, "x"), "commit"),
        ))
        message = ("c", NEED, (), ())
        self.assertEqual(registry.receive(message=message, node="a", slot="s"), (("received", "a", message),))
        value = ["c", [1, ["c"]], [], []]
        kept = copy.deepcopy(value)
        with self.assertRaises(InvalidMessage):
            registry.receive("s", "a", value)
        self.assertEqual(value, kept)


class DrawnOperationsTest(RegistryTestCase):
    """Every operation of drawn registries against rows and slots that run beside."""

    def test_drawn_operations(self):
        chance = random.Random(141)
        seen = []
        for _ in range(30):
            registry, model = Registry(), RegistryModel()
            for _ in range(50):
                operation = drawn_operation(chance, model)
                if chance.random() < 0.15:
                    operation = (chance.choice(("undo", "undo", "redo")),)
                found = outcome(registry, operation)
                self.assertEqual(found, outcome(model, operation))
                self.assertEqual(state_of(registry), state_of_model(model))
                seen.append(operation[0] if isinstance(found, str) else found[0])
            self.assertTrue(replay(registry.operations_in_effect()) == registry)
        for word in (*WORDS, "undo", "redo", "DuplicateNode", "UnknownNode", "InUse", "DuplicateSlot", "UnknownSlot",
                     "AlreadyVoted", "NotNominated", "FaultyNode", "NothingToUndo", "NothingToRedo"):
            self.assertGreater(seen.count(word), 0, word)

    def test_a_hundred_operations(self):
        chance = random.Random(142)
        registry, model = Registry(), RegistryModel()
        while len(registry) < 100:
            operation = drawn_operation(chance, model)
            self.assertEqual(outcome(registry, operation), outcome(model, operation))
        states = [state_of(registry)]
        operations = registry.operations_in_effect()
        for count in range(100, 0, -1):
            self.assertEqual(registry.undo(), operations[count - 1])
            states.append(state_of(registry))
        self.assertEqual((len(registry), registry.redo_count()), (0, 100))
        self.assertTrue(registry == Registry())
        for count in range(100):
            self.assertEqual(state_of(registry), states.pop())
            self.assertEqual(registry.redo(), operations[count])
        self.assertEqual(state_of(registry), states.pop())
        self.assertTrue(replay(operations) == registry)


class UndoTest(RegistryTestCase):

    def test_example(self):
        registry = Registry()
        registry.join("a", SELF)
        self.assertEqual(registry.undo(), ("join", "a", SELF))
        self.assertEqual(len(registry), 0)

    def test_nothing_to_undo_and_redo(self):
        registry = Registry()
        self.assert_refused(registry, NothingToUndo, {}, registry.undo)
        self.assert_refused(registry, NothingToRedo, {}, registry.redo)
        registry.join("a", SELF)
        self.assert_refused(registry, NothingToRedo, {}, registry.redo)
        registry.undo()
        self.assert_refused(registry, NothingToUndo, {}, registry.undo)
        registry.redo()
        self.assert_refused(registry, NothingToRedo, {}, registry.redo)

    def test_every_kind_of_operation_to_both_ends(self):
        registry = decided_registry()
        registry.receive("s", "a", ("c", SELF, (), ()))
        registry.prepare("s", "b", 2, "y")
        registry.close("s")
        registry.change("a", SELF)
        registry.change("b", SELF)
        registry.leave("c")
        operations = registry.operations_in_effect()
        self.assertEqual({operation[0] for operation in operations}, set(WORDS))
        for _ in range(2):
            for count in range(len(operations), 0, -1):
                self.assertTrue(replay(operations[:count]) == registry)
                self.assertEqual((registry.undo_count(), registry.redo_count()), (count, len(operations) - count))
                self.assertEqual(registry.undo(), operations[count - 1])
            for count in range(len(operations)):
                self.assertTrue(replay(operations[:count]) == registry)
                self.assertEqual(registry.redo(), operations[count])
            self.assertEqual(registry.operations_in_effect(), operations)

    def test_a_performed_operation_forgets_what_could_be_redone(self):
        for more in (lambda registry: registry.join("d", (1, ("d",))), lambda registry: registry.change("a", NEED),
                     lambda registry: registry.exchange("s", ()), lambda registry: registry.start("t", (), ["x"]),
                     lambda registry: registry.close("s"), lambda registry: registry.prepare("s", "a", 1, "x")):
            registry = decided_registry()
            for _ in range(3):
                registry.undo()
            self.assertEqual(registry.redo_count(), 3)
            more(registry)
            self.assertEqual(registry.redo_count(), 0)
            self.assert_refused(registry, NothingToRedo, {}, registry.redo)

    def test_a_call_that_raises_forgets_nothing(self):
        registry = decided_registry()
        registry.undo()
        registry.undo()
        for call, arguments in ((registry.join, ("a", SELF)), (registry.change, ("z", 7)), (registry.leave, ("a",)),
                                (registry.start, ("s", (), ["x"])), (registry.close, ("t",)),
                                (registry.nominate, ("s", "a", "x")), (registry.prepare, ("s", "a", 7, "x")),
                                (registry.commit, ("s", "a", 2, "x")), (registry.receive, ("s", "a", None)),
                                (registry.exchange, ("s", ["c"])), (registry.slot_copy, ("t",))):
            with self.assertRaises(MootError):
                call(*arguments)
            self.assertEqual(registry.redo_count(), 2)
        self.assertEqual(registry.redo(), ("commit", "s", "b", 1, "x"))
        self.assertEqual(registry.redo(), ("exchange", "s", ("a", "b")))
        self.assertTrue(registry == decided_registry())

    def test_after_undo_and_another_operation(self):
        registry = decided_registry()
        for _ in range(2):
            registry.undo()
        registry.nominate("s", "a", "y")
        other = replay(registry.operations_in_effect())
        self.assertEqual(state_of(registry), state_of(other))
        self.assertTrue(registry == other)
        self.assertEqual(registry.undo(), ("nominate", "s", "a", "y"))

    def test_undo_then_redo_of_a_slot_that_is_used_again(self):
        registry = Registry()
        registry.start("s", (), ["x"])
        registry.close("s")
        registry.start("s", (), ["y"])
        registry.undo()
        self.assertEqual((registry.open_slots(), registry.closed_slots()), ((), (("s", ()),)))
        registry.undo()
        self.assertEqual(registry.slot_copy("s").slot_values(), ("x",))
        self.assertEqual(registry.closed_slots(), ())


class CopyAndEqualityTest(RegistryTestCase):

    def test_a_copy_and_its_original_do_not_affect_each_other(self):
        chance = random.Random(143)
        for _ in range(10):
            registry = Registry()
            drawn_registry(chance, registry, 40)
            for _ in range(min(3, len(registry))):
                registry.undo()
            twin = registry.copy()
            self.assertIs(type(twin), Registry)
            self.assertTrue(twin == registry)
            before = state_of(registry)
            self.assertEqual(state_of(twin), before)
            drawn_registry(chance, twin, 20)
            changed = state_of(twin)
            self.assertEqual(state_of(registry), before)
            drawn_registry(chance, registry, 20)
            self.assertEqual(state_of(twin), changed)

    def test_the_same_operations_to_undo_and_redo(self):
        registry = decided_registry()
        operations = registry.operations_in_effect()
        for _ in range(4):
            registry.undo()
        twin = registry.copy()
        for count in range(len(operations) - 4, len(operations)):
            self.assertEqual(twin.redo(), operations[count])
        self.assertEqual((twin.redo_count(), registry.redo_count()), (0, 4))
        for count in range(len(operations), 0, -1):
            self.assertEqual(twin.undo(), operations[count - 1])
        self.assertEqual(len(registry), len(operations) - 4)
        registry.join("d", (1, ("d",)))
        self.assertEqual((registry.redo_count(), twin.redo_count()), (0, len(operations)))

    def test_the_same_state_in_different_ways(self):
        one, other = Registry(), Registry()
        one.join("a", SELF)
        one.join("b", (1, ("a",)))
        other.join("b", (1, ("b",)))
        other.join("a", SELF)
        self.assertFalse(one == other)
        other.change("b", (1, ("a",)))
        self.assertTrue(one == other)
        self.assertFalse(one != other)
        other.start("s", (), ["x"])
        self.assertFalse(one == other)
        other.undo()
        self.assertTrue(one == other)
        one.start("t", (), ["x", "y"])
        one.start("s", ["b"], ["y"])
        other.start("s", ["b", "b"], ["y"])
        self.assertFalse(one == other)
        other.start("t", [], ["y", "x"])
        self.assertTrue(one == other)
        one.exchange("s", [])
        self.assertTrue(one == other)

    def registries(self):
        """Registries of which no two are equal."""
        yield Registry()
        for faulty, values in (((), ["x"]), ((), ["x", "y"]), (["a"], ["x"])):
            for name in "st":
                registry = Registry()
                registry.join("a", SELF)
                registry.start(name, faulty, values)
                yield registry
        registry = Registry()
        registry.join("a", SELF)
        yield registry.copy()
        registry.start("s", (), ["x"])
        registry.nominate("s", "a", "x")
        yield registry.copy()
        registry.close("s")
        yield registry.copy()
        registry.start("s", (), ["x"])
        registry.close("s")
        yield registry.copy()
        registry.undo()
        yield registry.copy()
        yield trio_registry()
        yield decided_registry()
        registry = decided_registry()
        registry.close("s")
        yield registry

    def test_other_registries(self):
        for one, other in itertools.permutations(self.registries(), 2):
            self.assertFalse(one == other)
            self.assertTrue(one != other)

    def test_values_that_are_not_registries(self):
        for registry in (Registry(), decided_registry()):
            for value in (*OTHER_VALUES, registry.current_network(), registry.operations_in_effect(), object(),
                          len(registry), RegistryModel(), registry.closed_slots()):
                self.assertFalse(registry == value)
                self.assertFalse(value == registry)
                self.assertTrue(registry != value)

    def test_an_object_that_claims_equality_decides_nothing(self):
        class Agreeable:
            def __eq__(self, other):
                return True

        self.assertFalse(Registry() == Agreeable())


class ReplayTest(RegistryTestCase):

    def test_example(self):
        found = replay([("join", "a", SELF)]).current_network().node_names()
        self.assertEqual(found, ("a",))

    def test_every_first_part(self):
        registry = decided_registry()
        operations = registry.operations_in_effect()
        for count in range(len(operations), -1, -1):
            for form in (operations[:count], list(operations[:count])):
                found = replay(form)
                self.assertIs(type(found), Registry)
                self.assertTrue(found == registry)
                self.assertEqual(found.operations_in_effect(), operations[:count])
                self.assertEqual((found.undo_count(), found.redo_count()), (count, 0))
            if count:
                registry.undo()

    def test_lists_in_the_place_of_tuples(self):
        operations = [
            ["join", "a", SELF], ["join", "b", (1, ("a",))], ["start", "s", ["b", "b"], ["y", "x"]],
            ["exchange", "s", ["a"]], ["nominate", "s", "a", "y"], ["receive", "s", "a", ("b", SELF, (), ())],
        ]
        kept = copy.deepcopy(operations)
        registry = replay(operations)
        self.assertEqual(operations, kept)
        operations[2][2][0] = "a"
        operations[3][2].append("b")
        self.assertEqual(repr(registry.operations_in_effect()), repr((
            ("join", "a", SELF), ("join", "b", (1, ("a",))), ("start", "s", ("b",), ("x", "y")),
            ("exchange", "s", ("a",)), ("nominate", "s", "a", "y"), ("receive", "s", "a", ("b", SELF, (), ())),
        )))

    def test_an_operation_that_raises(self):
        good = decided_registry().operations_in_effect()
        for wrong, error, fields in (
            (("join", "a", SELF), DuplicateNode, {"name": "a"}), (("join", 7, SELF), InvalidName, {"value": 7}),
            (("change", "d", SELF), UnknownNode, {"name": "d"}), (("leave", "a"), InUse, {"name": "a", "user": "b"}),
            (("change", "a", [1, ("a",)]), InvalidRequirement, {"name": "a"}),
            (("start", "s", (), ("x",)), DuplicateSlot, {"name": "s"}), (("close", "t"), UnknownSlot, {"name": "t"}),
            (("nominate", "s", "a", "w"), UnknownValue, {"value": "w"}),
            (("prepare", "s", "a", 0, "x"), InvalidNumber, {"value": 0}),
            (("commit", "s", "c", 1, "x"), FaultyNode, {"name": "c"}),
            (("receive", "s", "a", ["c"]), InvalidMessage, {"value": ["c"]}),
            (["exchange", "s", ["b", "z"]], UnknownNode, {"name": "z"}),
        ):
            self.assert_raises(error, fields, replay, [*good, wrong, ("leave", "z")])
        self.assert_raises(UnknownSlot, {"name": "s"}, replay, operations=[*good, ("close", "s"), ("close", "s")])

    def test_no_operations(self):
        for form in ((), []):
            self.assertTrue(replay(form) == Registry())

    def test_undone_operations_are_not_replayed(self):
        registry = decided_registry()
        registry.undo()
        found = replay(registry.operations_in_effect())
        self.assertTrue(found == registry)
        self.assertEqual((found.redo_count(), registry.redo_count()), (0, 1))


class LimitsTest(RegistryTestCase):

    def test_eight_nodes_and_four_slots(self):
        registry = Registry()
        for name in "abcdef":
            registry.join(name, (1, (name,)))
        for slot in "stuv":
            registry.start(slot, ["f"], ["x"])
        for name in "gh":
            registry.join(name, (2, tuple("abcdefgh"[:"abcdefgh".index(name)])))
        self.assertEqual((len(registry.current_network()), registry.open_slots()), (8, ("s", "t", "u", "v")))
        for slot in "vuts":
            for node in "abcde":
                registry.nominate(slot, node, "x")
                registry.commit(slot, node, 1, "x")
            self.assertEqual(registry.close(slot), ("x",))

    def test_pair_by_way_of_a_preliminary_requirement(self):
        registry = Registry()
        registry.join("a", SELF)
        registry.join("b", SELF)
        registry.change("a", (1, ("b",)))
        self.assertTrue(registry.current_network() == PAIR)

    def test_honest_nodes_only_count_in_close(self):
        registry = trio_registry()
        self.assertEqual(honest_of(registry.slot_copy("s")), ["a", "b"])
        self.assertEqual(registry.close("s"), ())


if __name__ == "__main__":
    unittest.main()
