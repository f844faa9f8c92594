"""Promises [2] and [20] over the whole interface: how arguments are passed, what is returned, and unknown names."""

import copy
import unittest

from oathmoot.analysis import explain_messages, explains, followers
from oathmoot.attacks import attack, confirm_alone, confirms_alone, is_attack, mislead, misleads
from oathmoot.completion import completion, is_completion
from oathmoot.console import Console
from oathmoot.exchange import exchange
from oathmoot.formatting import (
    format_event, format_message, format_network, format_requirement, parse_event, parse_message, parse_network,
    parse_requirement,
)
from oathmoot.histories import is_complete_history, is_valid_history, justification
from oathmoot.intersection import are_disjoint_quorums, intersection, is_intersection_certificate
from oathmoot.messages import is_ballot, is_message, is_statement
from oathmoot.networks import Network
from oathmoot.quorums import is_quorum, is_removal_order, largest_quorum, minimal_quorums, removal_order
from oathmoot.registry import Registry, is_migration, migration, replay
from oathmoot.requirements import (
    blocks, dual, is_name, is_requirement, minimal_blocking, minimal_satisfying, names_in, satisfies,
)
from oathmoot.sessions import Session
from oathmoot.slots import Slot
from oathmoot.tolerance import (
    closure, dependent_nodes, fatal_sets, guardian_sets, minimal_tolerated, repairs, tolerance, tolerated_sets,
)
from tests.cases import RaisingTestCase
from tests.samples import FOUR, PAIR, TRIO
from tests.test_interface import FUNCTIONS, METHODS

BALLOT = (1, "x")
COMMIT = (BALLOT, "commit")
NEED = (2, ("a", "b", "c"))
SELF = (1, ("a",))
TOLD = ("c", (1, ("c",)), (COMMIT,), ())
EMPTY_MESSAGE = ("a", NEED, (), ())
EVENTS = [("voted", "a", BALLOT, "commit"), ("received", "a", TOLD),
          ("accepted", "a", BALLOT, "commit", ("support", ("a", "c")))]
STEPS = [("receive", "a", ("b", (1, ("b",)), (), (COMMIT,)))]


def session():
    found = Session(TRIO, ["c"])
    found.vote("a", BALLOT, "commit")
    found.receive("a", TOLD)
    return found


def slot():
    found = Slot(TRIO, ["c"], ["x", "y"])
    for node in "ab":
        found.nominate(node, "x")
    exchange(found, "ab")
    return found


def registry():
    found = Registry()
    for name in "abc":
        found.join(name, (1, (name,)))
    for name in "abc":
        found.change(name, NEED)
    found.join("d", (1, ("d",)))
    found.start("s", ["c"], ["x", "y"])
    for node in "ab":
        found.nominate("s", node, "x")
    found.exchange("s", "ab")
    found.start("t", (), ["z"])
    return found


def undone_registry():
    found = registry()
    found.undo()
    return found


# Each function with arguments of the stated kinds, lists where they may stand; those after `*` come in a second dict.
FUNCTION_CALLS = (
    (is_name, {"value": ["a"]}), (is_requirement, {"value": [1, ["a"]]}), (names_in, {"requirement": NEED}),
    (satisfies, {"requirement": NEED, "nodes": ["b", "a", "b"]}), (blocks, {"requirement": NEED, "nodes": ["a", "a"]}),
    (dual, {"requirement": NEED}), (minimal_satisfying, {"requirement": NEED}),
    (minimal_blocking, {"requirement": NEED}),
    (is_quorum, {"network": TRIO, "nodes": ["b", "a"]}, {"faulty": ["c", "c"]}),
    (removal_order, {"network": FOUR, "nodes": ["b", "a", "b"]}, {"faulty": ["a"]}),
    (is_removal_order, {"network": FOUR, "nodes": ["b", "a"], "order": ["b"]}, {"faulty": ["a"]}),
    (largest_quorum, {"network": FOUR, "nodes": ["c", "b", "a"]}, {"faulty": ["c"]}),
    (minimal_quorums, {"network": TRIO}, {"faulty": ["c"]}), (intersection, {"network": TRIO}, {"faulty": ["c"]}),
    (are_disjoint_quorums, {"network": TRIO, "one": ["a"], "other": ["b", "b"]}, {"faulty": ["c"]}),
    (is_intersection_certificate, {"network": PAIR, "certificate": ["empty", "one", ["a"]]}, {"faulty": ["b"]}),
    (tolerance, {"network": FOUR, "faulty": ["a", "a"]}), (tolerated_sets, {"network": TRIO}),
    (minimal_tolerated, {"network": FOUR, "faulty": ["b", "a"]}), (closure, {"network": FOUR, "faulty": ["a"]}),
    (fatal_sets, {"network": FOUR}), (guardian_sets, {"network": FOUR}),
    (repairs, {"network": FOUR, "faulty": ["b", "b"]}), (dependent_nodes, {"network": PAIR, "faulty": ["b"]}),
    (is_ballot, {"value": [1, "x"]}), (is_statement, {"value": [[1, "x"], "commit"]}),
    (is_message, {"network": TRIO, "value": ["c", NEED, [], []]}),
    (is_valid_history, {"network": TRIO, "faulty": ["c"], "events": EVENTS}),
    (is_complete_history, {"network": TRIO, "faulty": ["c", "c"], "events": EVENTS}),
    (justification, {"network": TRIO, "faulty": ["c"], "events": EVENTS, "node": "a", "ballot": BALLOT}),
    (attack, {"network": PAIR, "faulty": ["b", "b"]}), (is_attack, {"network": PAIR, "faulty": ["b"], "steps": STEPS}),
    (mislead, {"network": PAIR, "faulty": ["b"], "node": "a"}),
    (misleads, {"network": PAIR, "faulty": ["b"], "node": "a", "steps": STEPS}),
    (confirm_alone, {"network": TRIO, "faulty": ["c"], "node": "a"}),
    (confirms_alone, {"network": TRIO, "faulty": ["c"], "node": "a", "steps": [["vote", "a", BALLOT, "commit"]]}),
    (followers, {"network": FOUR, "faulty": ["d", "d"], "node": "a"}),
    (explain_messages, {"network": TRIO, "faulty": ["c"], "messages": [("a", NEED, (), (COMMIT,))]}),
    (explains, {"network": TRIO, "faulty": ["c"], "messages": [EMPTY_MESSAGE], "events": EVENTS}),
    (replay, {"operations": [["join", "a", SELF], ["start", "s", ["a", "a"], ["y", "x"]]]}),
    (migration, {"one": Network(), "other": PAIR}),
    (is_migration, {"one": Network(), "other": Network([("a", SELF)]), "operations": [["join", "a", SELF]]}),
    (format_requirement, {"requirement": NEED}), (parse_requirement, {"text": "2(a,b,c)"}),
    (format_network, {"network": PAIR}), (parse_network, {"text": "a: 1(a)"}), (format_message, {"message": TOLD}),
    (parse_message, {"text": "a | 1(a) | - | -"}), (format_event, {"event": EVENTS[2]}),
    (parse_event, {"text": "voted a 1 x abort"}),
)
# Each function and method that is called on an object, which is made anew for each call.
OBJECT_CALLS = (
    (session, exchange, {"nodes": ["b", "a", "b"]}, "session"), (slot, exchange, {"nodes": ["b", "a"]}, "session"),
    (slot, completion, {"faulty": ["c", "b", "a"]}, "slot"),
    (slot, is_completion, {"faulty": ["c", "c"], "steps": [["nominate", "a", "y"]]}, "slot"),
)
CLASS_CALLS = (
    (Network, {"rows": [["a", SELF], ("b", (1, ("a",)))]}), (Session, {"network": FOUR, "faulty": ["b", "a", "b"]}),
    (Slot, {"network": FOUR, "faulty": ["b", "b"], "values": ["y", "x"]}), (Registry, {}), (Console, {}),
)
QUERIES = tuple((name, {"node": "a"}) for name in (
    "messages_of", "message_of", "votes_of", "accepted_by", "confirmed_by", "received_by"))
METHOD_CALLS = (
    (lambda: FOUR, (
        ("node_names", {}), ("as_rows", {}), ("requirement_of", {"name": "a"}),
        ("with_node", {"name": "e", "requirement": SELF}),
    )),
    (lambda: FOUR.with_node("e", SELF), (("without_node", {"name": "e"}),)),
    (session, (
        ("all_events", {}), ("copy", {}), ("vote", {"node": "b", "ballot": BALLOT, "answer": "abort"}),
        ("receive", {"node": "b", "message": TOLD}), ("reason_of", {"node": "a", "ballot": BALLOT}), *QUERIES,
    )),
    (slot, (
        ("all_events", {}), ("copy", {}), ("receive", {"node": "b", "message": TOLD}),
        ("reason_of", {"node": "a", "ballot": (0, "x")}), *QUERIES, ("slot_values", {}), ("session_copy", {}),
        ("nominate", {"node": "a", "value": "y"}), ("prepare", {"node": "a", "number": 2, "value": "y"}),
        ("commit", {"node": "a", "number": 1, "value": "x"}), ("nominated_for", {"node": "a"}),
        ("is_prepared", {"node": "a", "number": 2, "value": "y"}), ("decided_by", {"node": "a"}),
    )),
    (registry, (
        ("current_network", {}), ("open_slots", {}), ("slot_copy", {"name": "s"}), ("closed_slots", {}),
        ("operations_in_effect", {}), ("copy", {}), ("join", {"name": "e", "requirement": SELF}),
        ("change", {"name": "a", "requirement": SELF}), ("leave", {"name": "d"}),
        ("start", {"slot": "u", "faulty": ["b", "a", "b"], "values": ["y", "x"]}), ("close", {"slot": "s"}),
        ("nominate", {"slot": "s", "node": "a", "value": "y"}),
        ("prepare", {"slot": "s", "node": "a", "number": 2, "value": "y"}),
        ("commit", {"slot": "s", "node": "a", "number": 1, "value": "x"}),
        ("receive", {"slot": "s", "node": "a", "message": TOLD}), ("exchange", {"slot": "s", "nodes": ["b", "a", "b"]}),
        ("undo", {}), ("undo_count", {}), ("redo_count", {}),
    )),
    (undone_registry, (("redo", {}),)),
    (Console, (("registry_copy", {}), ("run", {"line": "join a 1(a)"}))),
)


def shown(value):
    """A value as text, in which equal objects of the package look equal and sequences of other kinds differ."""
    if isinstance(value, (tuple, list)):
        inside = ", ".join(shown(entry) for entry in value)
        return f"{type(value).__name__}({inside})"
    if isinstance(value, Network):
        return f"network {value.as_rows()!r}"
    if isinstance(value, (Session, Slot)):
        return f"{type(value).__name__} {value.network.as_rows()!r} {value.faulty!r} {value.all_events()!r}"
    if isinstance(value, Registry):
        return f"registry {value.operations_in_effect()!r} {value.redo_count()}"
    if isinstance(value, Console):
        return "console " + shown(value.registry_copy())
    return repr(value)


class ArgumentsTest(unittest.TestCase):

    def check(self, call, named, only_by_name=None):
        """The same call by position, by names in both orders and by both; `call` makes objects anew."""
        only_by_name = only_by_name or {}
        kept = copy.deepcopy((named, only_by_name))
        entries = list(named.items())
        first = shown(call(**named, **only_by_name))
        self.assertEqual(shown(call(**only_by_name, **dict(entries[::-1]))), first)
        for count in range(len(entries) + 1):
            position = [value for name, value in entries[:count]]
            self.assertEqual(shown(call(*position, **only_by_name, **dict(entries[count:]))), first)
        self.assertEqual(repr(self.plain((named, only_by_name))), repr(self.plain(kept)))
        self.assertNotIn("list(", first)
        if only_by_name:
            with self.assertRaises(TypeError):
                call(*named.values(), *only_by_name.values())
        return first

    def plain(self, value):
        """The value with networks written as rows, so that values can be compared as text."""
        if isinstance(value, dict):
            return [(name, self.plain(entry)) for name, entry in value.items()]
        if isinstance(value, (tuple, list)):
            return type(value)(self.plain(entry) for entry in value)
        return value.as_rows() if isinstance(value, Network) else value

    def test_functions(self):
        for call, *named in FUNCTION_CALLS:
            self.check(call, *named)

    def test_functions_on_objects(self):
        for make, call, named, parameter in OBJECT_CALLS:
            self.check(lambda *position, **more: call(make(), *position, **more), named)
            by_name = call(**{**dict(reversed(list(named.items()))), parameter: make()})
            self.assertEqual(shown(by_name), shown(call(make(), *named.values())))

    def test_classes(self):
        for kind, named in CLASS_CALLS:
            self.check(kind, named)

    def test_methods(self):
        for make, calls in METHOD_CALLS:
            for name, named in calls:
                self.check(lambda *position, **more: getattr(make(), name)(*position, **more), named)

    def test_defaults(self):
        self.assertTrue(Network() == Network(()))
        self.assertTrue(Session(TRIO) == Session(TRIO, ()))
        for call, *named in FUNCTION_CALLS:
            if len(named) == 2:
                self.assertEqual(shown(call(**named[0])), shown(call(**named[0], faulty=())))

    def test_every_function_and_method_is_here(self):
        functions = {call.__name__ for call, *named in FUNCTION_CALLS}
        functions |= {call.__name__ for make, call, *named in OBJECT_CALLS}
        self.assertEqual(functions, {name for names in FUNCTIONS.values() for name in names})
        listed = {kind: set(methods) - {"__init__"} for kinds in METHODS.values() for kind, methods in kinds.items()}
        found = {kind: set() for kind in listed}
        for make, calls in METHOD_CALLS:
            found[type(make()).__name__] |= {name for name, named in calls}
        self.assertEqual(found, listed)
        self.assertEqual({kind.__name__ for kind, named in CLASS_CALLS}, set(listed))

    def test_queries_change_nothing(self):
        for make, calls in METHOD_CALLS:
            target = make()
            for name, named in calls:
                if name.endswith(("_of", "_by", "_events", "_copy", "_slots", "_values", "_for", "_effect", "_network",
                                  "_count", "_names", "_rows", "copy", "is_prepared")):
                    before = shown(target)
                    first = shown(getattr(target, name)(**named))
                    self.assertEqual(shown(getattr(target, name)(**named)), first)
                    self.assertEqual(shown(target), before)


class UnknownNamesTest(RaisingTestCase):
    """[20] for every function and method that is passed names; the names of slots come first, see test_registry.py."""

    def test_functions(self):
        sets = {"nodes": "set", "one": "set", "other": "set", "faulty": "set", "node": "name"}
        count = 0
        for call, *named in FUNCTION_CALLS:
            if "network" not in named[0] or call is justification:
                continue
            arguments = {name: value for entry in named for name, value in entry.items()}
            examined = {name: sets[name] for name in arguments if name in sets}
            rest = {name: value for name, value in arguments.items() if name not in sets}
            if examined:
                count += 1
                self.assert_unknown(call, {**rest, "network": FOUR}, examined)
                self.assert_unknown(call, {name: FOUR if name == "network" else 7 for name in rest}, examined)
        self.assertEqual(count, 24)

    def test_justification(self):
        # The parameters events, node and ballot accept any value.
        for events, node, ballot in ((EVENTS, "a", BALLOT), (7, "z", 7), ((), ["a"], None)):
            self.assert_unknown(justification, {"network": FOUR, "events": events, "node": node, "ballot": ballot},
                                {"faulty": "set"})

    def test_functions_on_objects(self):
        for steps in ((), 7, [("nominate", "z", "x")]):
            self.assert_unknown(is_completion, {"slot": slot(), "steps": steps}, {"faulty": "set"})
        self.assert_unknown(completion, {"slot": slot()}, {"faulty": "set"})
        for make in (session, slot):
            self.assert_unknown(exchange, {"session": make()}, {"nodes": "set"})

    def test_classes(self):
        self.assert_unknown(Session, {"network": FOUR}, {"faulty": "set"})
        for values in (["x"], [7], ["x", "x"]):
            self.assert_unknown(Slot, {"network": FOUR, "values": values}, {"faulty": "set"})

    def test_methods(self):
        count = 0
        for make, calls in METHOD_CALLS:
            target = make()
            for name, named in calls:
                parameter = {"requirement_of": "name", "without_node": "name", "leave": "name", "change": "name"}.get(
                    name, "node" if "slot" not in named else None)
                if parameter in named:
                    count += 1
                    rest = {other: value for other, value in named.items() if other != parameter}
                    self.assert_unknown(getattr(target, name), rest, {parameter: "name"})
                    self.assert_unknown(getattr(target, name), {other: None for other in rest}, {parameter: "name"})
        self.assertEqual(count, 4 + 9 + 14)
        found = registry()
        self.assert_unknown(found.start, {"slot": 7, "values": [7]}, {"faulty": "set"})
        for name, rest in (("nominate", {"value": 7}), ("prepare", {"number": 7, "value": 7}),
                           ("commit", {"number": 7, "value": 7}), ("receive", {"message": 7})):
            self.assert_unknown(getattr(found, name), {"slot": "s", **rest}, {"node": "name"})
        self.assert_unknown(found.exchange, {"slot": "s"}, {"nodes": "set"})


if __name__ == "__main__":
    unittest.main()
