"""Promises [90] to [94], and [2], [4] and [20] as far as they bear on console.py."""

import random
import unittest

from oathmoot.analysis import followers
from oathmoot.console import Console
from oathmoot.errors import (
    AlreadyVoted, DisjointQuorums, DuplicateNode, DuplicateSlot, DuplicateValue, FaultyNode, InUse, InvalidCommand,
    InvalidMessage, InvalidNumber, MootError, NotAccepted, NothingToRedo, NothingToUndo, NotNominated, NotPrepared,
    NotSent, OwnMessage, UnknownNode, UnknownSlot, UnknownValue,
)
from oathmoot.formatting import format_event, format_message, format_network, format_requirement
from oathmoot.registry import Registry
from oathmoot.tolerance import closure, dependent_nodes, fatal_sets, guardian_sets, repairs, tolerance
from tests.cases import RaisingTestCase
from tests.registry_model import RegistryModel, drawn_operation, state_of
from tests.slot_model import honest_of

TRIO_LINES = (
    "join a 1(a)", "join b 1(b)", "join c 1(c)", "change a 2(a,b,c)", "change b 2(a,b,c)", "change c 2(a,b,c)",
)
SLOT_LINES = (*TRIO_LINES, "start s c x,y", "nominate s a x", "nominate s b x", "exchange s a,b", "commit s a 1 x")
# One line of every command, right in form; not all of them can be performed.
COMMANDS = (
    "join d 1(a,1(b,c))", "change a 1(a)", "leave a", "start t a,b x,y,z", "close s", "nominate s a y",
    "prepare s a 2 y", "commit s a 1 x", "receive s a c | 1(c) | 1 x commit | -", "exchange s a,b", "undo", "redo",
    "network", "slots", "archive", "operations", "counts", "tolerance a,b", "dependents -", "closure a", "fatal",
    "guardians", "repairs -", "followers b a", "events s", "message s a", "reason s a 0 x", "nominated s a",
    "decided s a", "prepared s a 1 y",
)


def run_all(lines):
    console = Console()
    for line in lines:
        console.run(line)
    return console


def joined(names):
    return ",".join(names) if names else "none"


def set_lines(sets):
    return "\n".join(",".join(nodes) or "-" for nodes in sets) or "none"


def command_of(operation):
    """[92]: an operation written as a command."""
    word, *entries = operation
    if word in ("join", "change"):
        entries[1] = format_requirement(entries[1])
    elif word == "start":
        entries[1:] = [",".join(entries[1]) or "-", ",".join(entries[2])]
    elif word == "exchange":
        entries[1] = ",".join(entries[1]) or "-"
    elif word == "receive":
        entries[2] = format_message(entries[2])
    return " ".join([word, *map(str, entries)])


class ConsoleTestCase(RaisingTestCase):

    def assert_refused(self, console, error, fields, line):
        """The line raises this exception, and nothing changes."""
        before, twin = state_of(console.registry_copy()), console.registry_copy()
        self.assert_raises(error, fields, console.run, line)
        self.assertEqual(state_of(console.registry_copy()), before)
        self.assertTrue(console.registry_copy() == twin)

    def assert_no_command(self, console, line):
        self.assert_refused(console, InvalidCommand, {"line": line}, line)


class ConsoleTest(ConsoleTestCase):

    def test_examples(self):
        console = Console()
        self.assertEqual(console.run("join a 1(a)"), "ok")
        self.assertEqual(console.run("undo"), "join a 1(a)")
        self.assertEqual(Console().run("tolerance -"), "tolerated")
        self.assert_refused(Console(), UnknownSlot, {"name": "s"}, "decided s a")

    def test_a_new_console(self):
        found = Console().registry_copy()
        self.assertIs(type(found), Registry)
        self.assertTrue(found == Registry())
        self.assertEqual(len(found), 0)

    def test_a_copy_of_the_registry(self):
        console = run_all(SLOT_LINES)
        registry = console.registry_copy()
        before = state_of(registry)
        registry.close("s")
        registry.undo()
        registry.undo()
        self.assertEqual(state_of(console.registry_copy()), before)
        changed = state_of(registry)
        console.run("close s")
        self.assertEqual(state_of(registry), changed)
        console.run("undo")
        self.assertEqual(console.registry_copy().redo_count(), 1)

    def test_two_consoles_have_nothing_in_common(self):
        one, other = Console(), Console()
        one.run("join a 1(a)")
        self.assertEqual((one.run("network"), other.run("network")), ("a: 1(a)", "none"))
        self.assert_refused(other, NothingToUndo, {}, "undo")
        other.run("join b 1(b)")
        one.run("undo")
        self.assertEqual((one.run("counts"), other.run("counts")), ("0 1", "1 0"))

    def test_arguments(self):
        self.assertEqual(Console().run(line="slots"), "none")


class OperationsTest(ConsoleTestCase):

    def test_outputs_written_out_by_hand(self):
        console = run_all(TRIO_LINES)
        told = "c | 1(c) | 0 x commit | 0 x commit"
        for line, output in (
            ("start s c,c y,x", "ok"),
            ("nominate s a x", "voted a 0 x commit"),
            ("receive s a " + told, "received a " + told + "\n"
             "accepted a 0 x commit support a,c\nconfirmed a 0 x commit a,c"),
            ("exchange s b,a,b", "received a b | 2(a,b,c) | - | -\n"
             "received b a | 2(a,b,c) | 0 x commit | 0 x commit"),
            ("exchange s a,b", "none"),
            ("receive s b " + told, "received b " + told + "\n"
             "accepted b 0 x commit blocking a,c\nconfirmed b 0 x commit a,b,c"),
            ("prepare s b 1 x", "none"),
            ("prepare s b 2 x", "voted b 1 y abort"),
            ("commit s a 1 x", "voted a 1 x commit"),
            ("close s", "none"),
            ("undo", "close s"),
            ("undo", "commit s a 1 x"),
            ("undo", "prepare s b 2 x"),
            ("undo", "prepare s b 1 x"),
            ("undo", "receive s b " + told),
            ("undo", "exchange s a,b"),
            ("redo", "exchange s a,b"),
            ("exchange s -", "none"),
            ("undo", "exchange s -"),
            ("leave c", None),
            ("change c 1(c)", "ok"),
            ("start t - z,x,y", "ok"),
            ("undo", "start t - x,y,z"),
            ("undo", "change c 1(c)"),
            ("redo", "change c 1(c)"),
        ):
            if output is None:
                self.assert_refused(console, InUse, {"name": "c", "user": "a"}, line)
            else:
                self.assertEqual(console.run(line), output, line)

    def test_decided_values(self):
        console = run_all(SLOT_LINES)
        console.run("commit s b 1 x")
        console.run("exchange s b,a")
        self.assertEqual(console.run("close s"), "x")
        console = run_all(["join a 1(a)", "join b 1(b)", "start s - z,x,y", "nominate s a z", "prepare s a 1 z",
                           "commit s a 1 z", "nominate s b x", "commit s b 1 x"])
        self.assertEqual(console.run("close s"), "x,z")
        self.assertEqual(console.run("undo"), "close s")

    def drawn_lines(self, chance, tries):
        """Lines of operations that can or cannot be performed, with the operations."""
        model = RegistryModel()
        for _ in range(tries):
            operation = drawn_operation(chance, model)
            try:
                model.perform(operation)
            except MootError:
                pass
            yield operation

    def test_drawn_operations(self):
        chance = random.Random(171)
        seen = set()
        for _ in range(12):
            console, registry = Console(), Registry()
            for operation in self.drawn_lines(chance, 50):
                line = command_of(operation)
                try:
                    result = getattr(registry, operation[0])(*operation[1:])
                except MootError as error:
                    self.assert_refused(console, type(error), vars(error), line)
                    seen.add(type(error).__name__)
                    continue
                if operation[0] in ("join", "change", "leave", "start"):
                    expected = "ok"
                elif operation[0] == "close":
                    expected = joined(result)
                else:
                    expected = "\n".join(map(format_event, result)) or "none"
                self.assertEqual(console.run(line), expected)
                self.assertTrue(console.registry_copy() == registry)
                seen.add(operation[0])
                if chance.random() < 0.2:
                    self.assertEqual(console.run("undo"), command_of(registry.undo()))
                    if chance.random() < 0.5:
                        self.assertEqual(console.run("redo"), command_of(registry.redo()))
                self.assertEqual(state_of(console.registry_copy()), state_of(registry))
        self.assertTrue({"join", "change", "leave", "start", "close", "nominate", "prepare", "receive", "exchange",
                         "InUse", "UnknownNode", "DuplicateNode", "DuplicateSlot", "AlreadyVoted"} <= seen)

    def test_the_lines_of_operations_on_a_new_console(self):
        chance = random.Random(172)
        for _ in range(12):
            console = Console()
            for operation in self.drawn_lines(chance, 60):
                try:
                    console.run(command_of(operation))
                except MootError:
                    pass
            if len(console.registry_copy()) > 2:
                console.run("undo")
            lines = console.run("operations").split("\n")
            self.assertEqual(lines, [command_of(operation)
                                     for operation in console.registry_copy().operations_in_effect()])
            other = run_all(lines)
            self.assertTrue(other.registry_copy() == console.registry_copy())
            self.assertEqual(other.run("operations").split("\n"), lines)

    def test_the_exceptions_of_the_methods(self):
        console = run_all(SLOT_LINES)
        for line, error, fields in (
            ("join a 1(a)", DuplicateNode, {"name": "a"}), ("join d 1(z,e)", UnknownNode, {"name": "e"}),
            ("change d 1(a)", UnknownNode, {"name": "d"}), ("change a 1(z)", UnknownNode, {"name": "z"}),
            ("leave d", UnknownNode, {"name": "d"}), ("leave b", InUse, {"name": "b", "user": "a"}),
            ("start s - x", DuplicateSlot, {"name": "s"}), ("start s z x", UnknownNode, {"name": "z"}),
            ("start t a,z,q x", UnknownNode, {"name": "z"}), ("start t a,q,z x", UnknownNode, {"name": "q"}),
            ("start t - x,x", DuplicateValue, {"value": "x"}), ("start t - x,y,y", DuplicateValue, {"value": "y"}),
            ("close t", UnknownSlot, {"name": "t"}), ("nominate t z z", UnknownSlot, {"name": "t"}),
            ("nominate s z x", UnknownNode, {"name": "z"}), ("nominate s c x", FaultyNode, {"name": "c"}),
            ("nominate s a w", UnknownValue, {"value": "w"}),
            ("nominate s a x", AlreadyVoted, {"name": "a", "ballot": (0, "x")}),
            ("prepare s a 0 x", InvalidNumber, {"value": 0}), ("prepare s a 7 w", InvalidNumber, {"value": 7}),
            ("prepare s a 9 x", InvalidNumber, {"value": 9}), ("prepare s a 1 w", UnknownValue, {"value": "w"}),
            ("commit s a 8 x", InvalidNumber, {"value": 8}),
            ("commit s a 1 y", NotNominated, {"name": "a", "value": "y"}),
            ("commit s a 3 x", NotPrepared, {"name": "a", "ballot": (3, "x")}),
            ("receive t a a | 1(a) | - | -", UnknownSlot, {"name": "t"}),
            ("receive s a z | 1(a) | - | -", InvalidMessage, {"value": ("z", (1, ("a",)), (), ())}),
            ("receive s a c | 1(z) | - | -", InvalidMessage, {"value": ("c", (1, ("z",)), (), ())}),
            ("receive s a c | 1(a) | 1 w abort | -", InvalidMessage,
             {"value": ("c", (1, ("a",)), (((1, "w"), "abort"),), ())}),
            ("receive s a a | 1(a) | - | -", OwnMessage, {"name": "a"}),
            ("receive s a b | 1(a) | - | -", NotSent, {"name": "b"}),
            ("exchange t z", UnknownSlot, {"name": "t"}), ("exchange s a,c,z", UnknownNode, {"name": "z"}),
            ("exchange s b,c,a", FaultyNode, {"name": "c"}), ("redo", NothingToRedo, {}),
        ):
            self.assert_refused(console, error, fields, line)
        self.assert_refused(Console(), NothingToUndo, {}, "undo")

    def test_a_refused_line_forgets_nothing(self):
        console = run_all(SLOT_LINES)
        console.run("undo")
        for line in ("join a 1(a)", "exchange s c", "what", "close t"):
            with self.assertRaises(MootError):
                console.run(line)
        self.assertEqual(console.run("redo"), "commit s a 1 x")


class QueriesTest(ConsoleTestCase):

    def check_queries(self, console):
        """Every query against the methods and functions that it calls."""
        registry = console.registry_copy()
        network = registry.current_network()
        self.assertEqual(console.run("network"), format_network(network) or "none")
        self.assertEqual(console.run("slots"), joined(registry.open_slots()))
        archive = [f"{name} {','.join(values) or '-'}" for name, values in registry.closed_slots()]
        self.assertEqual(console.run("archive"), "\n".join(archive) or "none")
        operations = [command_of(operation) for operation in registry.operations_in_effect()]
        self.assertEqual(console.run("operations"), "\n".join(operations) or "none")
        self.assertEqual(console.run("counts"), f"{registry.undo_count()} {registry.redo_count()}")
        self.check_closures(console, network)
        names = network.node_names()
        for nodes in ((), names[:1], names[::-1], names[1:] + names[1:]):
            text = ",".join(nodes) or "-"
            found = tolerance(network, nodes)
            expected = f"dependent {found[1]}" if found[0] == "dependent" else found[0]
            self.assertEqual(console.run("tolerance " + text), expected)
            self.assertEqual(console.run("dependents " + text), joined(dependent_nodes(network, nodes)))
            pairs = [f"{name} {count}" for name, count in repairs(network, nodes)]
            self.assertEqual(console.run("repairs " + text), "\n".join(pairs) or "none")
            for name in names:
                if name not in nodes:
                    self.assertEqual(console.run(f"followers {text} {name}"), joined(followers(network, nodes, name)))
        for name in registry.open_slots():
            self.check_slot(console, name, registry.slot_copy(name))

    def check_closures(self, console, network):
        try:
            expected = closure(network, ())
        except DisjointQuorums as error:
            for line in ("closure -", "fatal", "guardians"):
                self.assert_refused(console, DisjointQuorums, vars(error), line)
            return
        self.assertEqual(console.run("closure -"), joined(expected))
        for name in network.node_names():
            self.assertEqual(console.run(f"closure {name},{name}"), joined(closure(network, [name])))
        self.assertEqual(console.run("fatal"), set_lines(fatal_sets(network)))
        self.assertEqual(console.run("guardians"), set_lines(guardian_sets(network)))

    def check_slot(self, console, name, slot):
        self.assertEqual(console.run(f"events {name}"), "\n".join(map(format_event, slot.all_events())) or "none")
        for node in honest_of(slot):
            self.assertEqual(console.run(f"message {name} {node}"), format_message(slot.message_of(node)))
            self.assertEqual(console.run(f"nominated {name} {node}"), joined(slot.nominated_for(node)))
            self.assertEqual(console.run(f"decided {name} {node}"), joined(slot.decided_by(node)))
            for value in slot.slot_values():
                expected = "yes" if slot.is_prepared(node, 2, value) else "no"
                self.assertEqual(console.run(f"prepared {name} {node} 2 {value}"), expected)
                for number in (0, 1):
                    try:
                        word, nodes = slot.reason_of(node, (number, value))
                    except NotAccepted as error:
                        self.assert_refused(console, NotAccepted, vars(error), f"reason {name} {node} {number} {value}")
                        continue
                    self.assertEqual(console.run(f"reason {name} {node} {number} {value}"), f"{word} {','.join(nodes)}")

    def test_drawn_registries(self):
        chance = random.Random(173)
        for _ in range(10):
            console, model = Console(), RegistryModel()
            for _ in range(45):
                operation = drawn_operation(chance, model)
                try:
                    console.run(command_of(operation))
                    model.perform(operation)
                except MootError:
                    pass
            for line in ("undo", "undo", "redo"):
                self.check_queries(console)
                console.run(line)
            before = state_of(console.registry_copy())
            self.check_queries(console)
            self.assertEqual(state_of(console.registry_copy()), before)

    def test_a_new_console(self):
        console = Console()
        for line, output in (
            ("network", "none"), ("slots", "none"), ("archive", "none"), ("operations", "none"), ("counts", "0 0"),
            ("tolerance -", "tolerated"), ("dependents -", "none"), ("closure -", "none"), ("fatal", "-"),
            ("guardians", "none"), ("repairs -", "none"),
        ):
            self.assertEqual(console.run(line), output, line)
        self.check_queries(console)

    def test_outputs_written_out_by_hand(self):
        console = run_all(SLOT_LINES)
        console.run("start r - x")
        console.run("close r")
        console.run("start r - y")
        for line, output in (
            ("network", "a: 2(a,b,c)\nb: 2(a,b,c)\nc: 2(a,b,c)"), ("slots", "r,s"), ("archive", "r -"),
            ("counts", "14 0"), ("tolerance -", "tolerated"), ("tolerance c,c", "disjoint"),
            ("tolerance c,b", "dependent a"), ("tolerance b,c,a", "tolerated"), ("dependents -", "none"),
            ("dependents c,b", "a"), ("closure -", "none"), ("closure b", "a,b,c"), ("fatal", "a\nb\nc"),
            ("guardians", "a,b,c"), ("repairs -", "a 3\nb 3\nc 3"), ("repairs a", "none"), ("followers c a", "b"),
            ("followers - a", "b,c"), ("followers b,c a", "none"), ("nominated s a", "x"), ("decided s a", "none"),
            ("prepared s a 1 x", "yes"), ("prepared s b 1 y", "no"), ("reason s a 0 x", "support a,b"),
            ("message s a", "a | 2(a,b,c) | 0 x commit; 1 x commit | 0 x commit"), ("events r", "none"),
        ):
            self.assertEqual(console.run(line), output, line)
        self.assertEqual(console.run("events s").split("\n")[:2], ["voted a 0 x commit", "voted b 0 x commit"])
        self.assertEqual(console.run("events s").split("\n")[-1], "voted a 1 x commit")
        self.assertEqual(console.run("operations").split("\n")[5:8],
                         ["change c 2(a,b,c)", "start s c x,y", "nominate s a x"])

    def test_more_outputs_written_out_by_hand(self):
        # b blocks a, and the network without the pair needs nobody.
        console = run_all(["join b 1(b)", "join a 1(b)", "start s b x,y"])
        self.assertEqual(console.run("receive s a b | 1(b) | - | 3 y abort").split("\n")[1:],
                         ["accepted a 3 y abort blocking b", "confirmed a 3 y abort a,b"])
        self.assertEqual(console.run("reason s a 3 y"), "blocking b")
        console.run("receive s a b | 1(b) | - | 0 x commit; 0 y commit; 1 x commit; 2 y commit")
        self.assertEqual((console.run("nominated s a"), console.run("decided s a")), ("x,y", "x,y"))
        console.run("close s")
        console.run("start s - x")
        console.run("close s")
        self.assertEqual(console.run("archive"), "s x,y\ns -")
        self.assertEqual((console.run("fatal"), console.run("guardians")), ("b", "b"))
        self.assertEqual(console.run("closure a"), "a")
        self.assertEqual(console.run("dependents b"), "a")

    def test_after_operations_undo_and_redo(self):
        console = run_all(TRIO_LINES)
        self.assertEqual(console.run("tolerance c"), "disjoint")
        console.run("join d 3(a,b,c,d)")
        for name in "abc":
            console.run(f"change {name} 3(a,b,c,d)")
        self.assertEqual((console.run("tolerance c"), console.run("closure c")), ("tolerated", "c"))
        for _ in range(4):
            console.run("undo")
        self.assertEqual((console.run("tolerance c"), console.run("counts")), ("disjoint", "6 4"))
        for _ in range(4):
            console.run("redo")
        self.assertEqual((console.run("tolerance c"), console.run("counts")), ("tolerated", "10 0"))

    def test_exceptions(self):
        console = run_all(SLOT_LINES)
        for line, error, fields in (
            ("tolerance a,z,q", UnknownNode, {"name": "z"}), ("dependents q,z", UnknownNode, {"name": "q"}),
            ("closure z", UnknownNode, {"name": "z"}), ("repairs c,z", UnknownNode, {"name": "z"}),
            ("followers a,z q", UnknownNode, {"name": "z"}), ("followers a q", UnknownNode, {"name": "q"}),
            ("followers a,b a", FaultyNode, {"name": "a"}), ("events t", UnknownSlot, {"name": "t"}),
            ("message t z", UnknownSlot, {"name": "t"}), ("reason t z 9 w", UnknownSlot, {"name": "t"}),
            ("nominated t z", UnknownSlot, {"name": "t"}), ("decided t z", UnknownSlot, {"name": "t"}),
            ("prepared t z 9 w", UnknownSlot, {"name": "t"}), ("message s z", UnknownNode, {"name": "z"}),
            ("message s c", FaultyNode, {"name": "c"}), ("reason s z 9 w", UnknownNode, {"name": "z"}),
            ("reason s c 9 w", FaultyNode, {"name": "c"}),
            ("reason s a 9 w", NotAccepted, {"name": "a", "ballot": (9, "w")}),
            ("reason s a 1 x", NotAccepted, {"name": "a", "ballot": (1, "x")}),
            ("nominated s c", FaultyNode, {"name": "c"}), ("decided s z", UnknownNode, {"name": "z"}),
            ("prepared s c 9 w", FaultyNode, {"name": "c"}), ("prepared s a 9 w", InvalidNumber, {"value": 9}),
            ("prepared s a 0 x", InvalidNumber, {"value": 0}), ("prepared s a 1 w", UnknownValue, {"value": "w"}),
        ):
            self.assert_refused(console, error, fields, line)
        console = run_all(["join a 1(a)", "join b 1(b)"])
        for line in ("closure -", "fatal", "guardians"):
            with self.assertRaises(DisjointQuorums) as caught:
                console.run(line)
            self.assertEqual({caught.exception.one, caught.exception.other}, {("a",), ("b",)})
        self.assert_refused(console, UnknownNode, {"name": "z"}, "closure a,z")

    def test_the_network_of_the_slot(self):
        console = run_all(SLOT_LINES)
        for line in ("change a 1(a)", "change b 1(a)", "leave c", "join d 1(d)"):
            console.run(line)
        self.assertEqual(console.run("message s b"), "b | 2(a,b,c) | 0 x commit | 0 x commit")
        self.assert_refused(console, FaultyNode, {"name": "c"}, "message s c")
        self.assert_refused(console, UnknownNode, {"name": "d"}, "message s d")


class FormsTest(ConsoleTestCase):

    def setUp(self):
        self.console = run_all(SLOT_LINES)

    def test_right_forms(self):
        for line in COMMANDS:
            console = run_all(SLOT_LINES)
            try:
                self.assertIsInstance(console.run(line), str)
            except InvalidCommand:
                self.fail(line)
            except MootError:
                pass
        self.assertEqual(len({line.split(" ")[0] for line in COMMANDS}), 30)

    def test_a_word_more_less_or_exchanged(self):
        for line in COMMANDS:
            words = line.split(" ")
            self.assert_no_command(self.console, line + " a")
            self.assert_no_command(self.console, "a " + line)
            for at in range(len(words)):
                changed = " ".join([*words[:at], *words[at + 1:]])
                self.assert_no_command(self.console, changed)
                self.assert_no_command(self.console, " ".join([*words[:at], "7x", *words[at + 1:]]))
                self.assert_no_command(self.console, " ".join([*words[:at], words[at].upper() + "1", *words[at + 1:]]))
        for line in ("join 1(a) d", "start a,b t x", "followers a,b a,b", "prepare s 1 a x", "commit s a x 1"):
            self.assert_no_command(self.console, line)

    def test_spaces_and_line_feeds(self):
        for line in COMMANDS:
            for changed in (line + " ", " " + line, line + "\n", "\n" + line, line + "\n" + line, line.upper(),
                            line.title(), line + "\t", line + ";"):
                self.assert_no_command(self.console, changed)
            for at, letter in enumerate(line):
                if letter == " ":
                    self.assert_no_command(self.console, line[:at] + " " + line[at:])
                    self.assert_no_command(self.console, line[:at] + "\n" + line[at + 1:])

    def test_no_command_at_all(self):
        for line in ("", " ", "\n", "-", "none", "ok", "help", "quit", "join", "perform", "copy", "vote s a", "name",
                     "slot_copy s", "current_network", "undo_count", "session s", "values s", "x" * 2000, " " * 2000):
            self.assert_no_command(self.console, line)

    def test_invalid_names(self):
        for name in ("A", "a1", "abcdefghi", "", "-", "a,b", "a_b", "(a)", "~"):
            for line in (f"join {name} 1(a)", f"change {name} 1(a)", f"leave {name}", f"start {name} - x",
                         f"close {name}", f"nominate {name} a x", f"nominate s {name} x", f"nominate s a {name}",
                         f"prepare {name} a 1 x", f"prepare s {name} 1 x", f"prepare s a 1 {name}",
                         f"commit {name} a 1 x", f"commit s {name} 1 x", f"commit s a 1 {name}",
                         f"receive {name} a c | 1(c) | - | -", f"receive s {name} c | 1(c) | - | -",
                         f"exchange {name} a", f"followers - {name}", f"events {name}", f"message {name} a",
                         f"message s {name}", f"reason {name} a 1 x", f"reason s {name} 1 x", f"reason s a 1 {name}",
                         f"nominated {name} a", f"nominated s {name}", f"decided {name} a", f"decided s {name}",
                         f"prepared {name} a 1 x", f"prepared s {name} 1 x", f"prepared s a 1 {name}"):
                self.assert_no_command(self.console, line)

    def test_invalid_numbers(self):
        for number in ("10", "01", "-1", "+1", "", "x", "1.", "one", "00", "1,2", "1" * 30, "~"):
            for word in ("prepare", "commit", "reason", "prepared"):
                self.assert_no_command(self.console, f"{word} s a {number} x")

    def test_invalid_requirements(self):
        for requirement in ("a", "1", "1()", "2(a)", "0(a)", "01(a)", "1(a", "1(A)", "1(a,)", "1(a,a)", "1(1(1(a)))",
                            "-", "", "1(a,b,c,d,e,f,g,h,i)"):
            for word in ("join d", "change a"):
                self.assert_no_command(self.console, f"{word} {requirement}")

    def test_invalid_node_sets(self):
        for nodes in ("a,", ",a", "a,,b", "A", "a,B", "a;b", "--", "-,a", "a,-", "", "abcdefghi", "a,b,1"):
            for line in (f"start t {nodes} x", f"exchange s {nodes}", f"tolerance {nodes}", f"dependents {nodes}",
                         f"closure {nodes}", f"repairs {nodes}", f"followers {nodes} a"):
                self.assert_no_command(self.console, line)

    def test_invalid_values(self):
        for values in ("-", "", "x,", ",x", "x,,y", "X", "x,Y", "w,x,y,z", "x,x,x,x", "x;y", "abcdefghi", "x,1"):
            self.assert_no_command(self.console, f"start t - {values}")

    def test_invalid_messages(self):
        for message in ("", "-", "c", "c | 1(c) | -", "c | 1(c) | - | - | -", "c | 1(c) | - |  -", "C | 1(c) | - | -",
                        "c | 2(c) | - | -", "c | 1(c) | 7 x abort | -", "c | 1(c) | 1 x commit; 1 x abort | -",
                        "c | 1(c) | 1 x abort; 1 x abort | -", "c | 1(c) | - | - ", "c  | 1(c) | - | -", "c|1(c)|-|-"):
            self.assert_no_command(self.console, f"receive s a {message}")
        self.assert_no_command(self.console, "receive s a")
        self.assert_no_command(self.console, "receive s")

    def test_node_sets_in_any_order_with_duplicates(self):
        self.assertEqual(self.console.run("start t c,a,c z,x"), "ok")
        self.assertEqual(self.console.run("undo"), "start t a,c x,z")
        self.assertEqual(self.console.run("start t - x"), "ok")
        self.assertEqual(self.console.registry_copy().slot_copy("t").faulty, ())
        self.console.run("exchange t c,b,c,a")
        self.assertEqual(self.console.run("undo"), "exchange t a,b,c")
        self.assertEqual(self.console.run("tolerance c,b,c"), self.console.run("tolerance b,c"))

    def test_names_like_words(self):
        # Nodes, slots and values may be called like commands and outputs.
        console = run_all(["join undo 1(undo)", "join none 1(none,undo)", "start slots none ok,join"])
        self.assertEqual(console.run("nominate slots undo ok").split("\n")[0], "voted undo 0 ok commit")
        self.assertEqual(console.run("nominated slots undo"), "ok")
        self.assertEqual(console.run("slots"), "slots")
        self.assertEqual(console.run("close slots"), "none")


if __name__ == "__main__":
    unittest.main()
