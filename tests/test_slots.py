"""Promises [64] to [70], and [2], [3], [4] and [20] as far as they bear on slots.py."""

import copy
import itertools
import random
import unittest

from oathmoot.errors import (
    AlreadyAccepted, AlreadyVoted, DuplicateValue, FaultyNode, InvalidMessage, InvalidName, InvalidNumber, NotAccepted,
    NotNominated, NotPrepared, NotSent, OwnMessage, UnknownNode, UnknownValue,
)
from oathmoot.exchange import exchange
from oathmoot.networks import Network
from oathmoot.sessions import Session
from oathmoot.slots import Slot
from tests.cases import NOT_NODES, RaisingTestCase
from tests.samples import APART, FOUR, OTHER_VALUES, PAIR, TRIO, drawn_cases, nested
from tests.slot_model import (
    SESSION_QUERIES, SlotModel, drawn_decision, drawn_slot, drawn_slot_step, honest_of, perform, slot_ballots,
)
from tests.test_messages import ANY_VALUES, BROKEN_BALLOTS, BROKEN_MESSAGES

NEED = (2, ("a", "b", "c"))
# A node that needs only itself confirms at once what it votes for.
ALONE = Network([("a", (1, ("a",))), ("b", (1, ("b",))), ("c", (2, ("a", "b")))])
# Values of every kind that are not among the values x, y and z.
OTHERS = (*OTHER_VALUES, "w", "xx", "X", "x ", "x\n", "", ("x",), ["x"], [["x"]], nested("x", 39))
NUMBERS = (*OTHER_VALUES, -1, 0, 7, 8, "1", "one", (1,), [1], 10 ** 29, -10 ** 29, True, False, None)
WRONG_NUMBERS = [value for value in NUMBERS if type(value) is not int or not 1 <= value <= 6]


def state_of(slot):
    """All that a slot returns."""
    found = [slot.network.as_rows(), slot.faulty, len(slot), slot.all_events(), slot.slot_values()]
    for name in honest_of(slot):
        found.append((name, *[getattr(slot, query)(name) for query in SESSION_QUERIES]))
        found.append((slot.nominated_for(name), slot.decided_by(name)))
        found.append([slot.is_prepared(name, number, value) for number in range(1, 7) for value in slot.slot_values()])
    return repr(found)


def decided_slot():
    """A slot in `trio` in which a and b nominated x, prepared the ballot (1, "x") and decided; c heard nothing."""
    slot = Slot(TRIO, (), ["x", "y"])
    for node in "ab":
        slot.nominate(node, "x")
    exchange(slot, "ab")
    for node in "ab":
        slot.commit(node, 1, "x")
    exchange(slot, "ab")
    return slot


class SlotTestCase(RaisingTestCase):

    def assert_refused(self, slot, error, fields, call, *arguments, **named):
        """The call raises this exception, and the slot stays as it is."""
        before, twin = state_of(slot), slot.copy()
        self.assert_raises(error, fields, call, *arguments, **named)
        self.assertEqual(state_of(slot), before)
        self.assertTrue(slot == twin)


class CreationTest(SlotTestCase):

    def test_example(self):
        self.assertEqual(Slot(TRIO, (), ["y", "x"]).slot_values(), ("x", "y"))

    def test_values_in_any_order(self):
        for names in (("x",), ("x", "y"), ("a", "b", "z"), ("abcdefgh", "b", "ba")):
            for order in itertools.permutations(names):
                for form in (tuple, list):
                    self.assertEqual(repr(Slot(TRIO, (), form(order)).slot_values()), repr(tuple(sorted(names))))

    def test_fields(self):
        slot = Slot(FOUR, ["c", "a", "c"], ["x"])
        self.assertIs(type(slot.network), Network)
        self.assertTrue(slot.network == FOUR)
        self.assertEqual(repr(slot.faulty), "('a', 'c')")
        self.assertEqual(Slot(FOUR, [], ["x"]).faulty, ())

    def test_a_new_slot(self):
        slot = Slot(faulty=["c"], values=("y", "x"), network=TRIO)
        self.assertEqual((len(slot), repr(slot.all_events())), (0, "()"))
        for name in "ab":
            self.assertEqual(slot.messages_of(name), ((name, NEED, (), ()),))
            self.assertEqual(repr((slot.nominated_for(name), slot.decided_by(name))), "((), ())")
        self.assertTrue(slot.session_copy() == Session(TRIO, ["c"]))

    def test_no_nodes_and_all_nodes_faulty(self):
        self.assertEqual(Slot(Network(), (), ["x"]).all_events(), ())
        self.assertEqual(Slot(PAIR, ["b", "a"], ["x"]).faulty, ("a", "b"))

    def test_values_that_are_no_names(self):
        for value in (*OTHER_VALUES, "abcdefghi", "x1", "X", "x\n", ["x"], ("x",)):
            for values in ([value], ("x", value), ["x", value, "y"], ["x", "y", value], [value, 7, "x"]):
                self.assert_raises(InvalidName, {"value": value}, Slot, TRIO, (), values)

    def test_values_twice(self):
        for values in (["x", "x"], ("x", "y", "x"), ["y", "x", "x"], ["y", "y", "x"]):
            value = values[1] if values[1] == values[0] else "x"
            self.assert_raises(DuplicateValue, {"value": value}, Slot, TRIO, (), values)

    def test_the_first_entry_that_is_wrong(self):
        self.assert_raises(DuplicateValue, {"value": "x"}, Slot, TRIO, (), ["x", "x", "X"])
        self.assert_raises(InvalidName, {"value": "X"}, Slot, TRIO, (), ["x", "X", "x"])
        self.assert_raises(InvalidName, {"value": 7}, Slot, TRIO, (), [7, 7])
        self.assert_raises(InvalidName, {"value": []}, Slot, TRIO, (), ([], []))

    def test_unknown_nodes_come_first(self):
        for values in (["x"], [7], ["x", "x"]):
            self.assert_unknown(Slot, {"network": FOUR, "values": values}, {"faulty": "set"})
            self.assert_unknown_without_nodes(Slot, {"values": values}, ["faulty"])

    def test_the_passed_lists(self):
        values, faulty = ["y", "x"], ["c", "c"]
        slot = Slot(TRIO, faulty, values)
        self.assertEqual((values, faulty), (["y", "x"], ["c", "c"]))
        values[0] = "z"
        values.append("w")
        faulty[0] = "a"
        faulty.append("b")
        self.assertEqual((slot.slot_values(), slot.faulty), (("x", "y"), ("c",)))
        slot.nominate("a", "y")
        self.assert_refused(slot, UnknownValue, {"value": "z"}, slot.nominate, "a", "z")


class CopyAndEqualityTest(SlotTestCase):

    def test_a_copy_and_its_original_do_not_affect_each_other(self):
        for chance, network, faulty in drawn_cases(121, range(1, 7), 6):
            slot = drawn_decision(chance, Slot(network, faulty, ["x", "y"]), 1)
            twin, session = slot.copy(), slot.session_copy()
            self.assertIs(type(twin), Slot)
            self.assertIs(type(session), Session)
            self.assertTrue(twin == slot)
            before, events = state_of(slot), slot.all_events()
            self.assertEqual(state_of(twin), before)
            drawn_slot(chance, twin, 15)
            changed = state_of(twin)
            self.assertEqual(state_of(slot), before)
            self.assertEqual(twin == slot, changed == before)
            for name in honest_of(slot):
                session.vote(name, (6, "new"), "commit")
            self.assertEqual(state_of(slot), before)
            events_of_session = session.all_events()
            drawn_slot(chance, slot, 15)
            self.assertEqual(state_of(twin), changed)
            self.assertEqual(session.all_events(), events_of_session)
            self.assertEqual(session.all_events()[:len(events)], events)

    def test_a_copy_goes_on_as_its_original(self):
        for chance, network, faulty in drawn_cases(122, range(2, 7), 6):
            slot = drawn_slot(chance, Slot(network, faulty, ["x", "y", "z"]), 20)
            twin = slot.copy()
            for _ in range(20):
                step = drawn_slot_step(chance, slot)
                if step is not None:
                    self.assertEqual(repr(perform(slot, step)), repr(perform(twin, step)))
            self.assertTrue(slot == twin)
            self.assertEqual(state_of(slot), state_of(twin))

    def test_equal_slots(self):
        self.assertTrue(decided_slot() == decided_slot())
        self.assertFalse(decided_slot() != decided_slot())
        self.assertTrue(Slot(PAIR, (), ["y", "x"]) == Slot(Network(PAIR.as_rows()[::-1]), [], ("x", "y")))
        self.assertTrue(Slot(TRIO, ["c", "b", "c"], ["x"]) == Slot(TRIO, ("b", "c"), ["x"]))

    def test_other_slots(self):
        started, other = Slot(TRIO, (), ["x", "y"]), Slot(TRIO, (), ["x", "y"])
        started.nominate("a", "x")
        other.nominate("a", "y")
        longer = decided_slot()
        longer.nominate("c", "y")
        slots = [decided_slot(), longer, started, other, Slot(TRIO, (), ["x", "y"]), Slot(TRIO, (), ["x"]),
                 Slot(TRIO, (), ["x", "y", "z"]), Slot(TRIO, ["c"], ["x", "y"]), Slot(TRIO, ["b"], ["x", "y"]),
                 Slot(FOUR, (), ["x", "y"]), Slot(Network(), (), ["x", "y"]), Slot(PAIR, (), ["x"])]
        for one, two in itertools.permutations(slots, 2):
            self.assertFalse(one == two)
            self.assertTrue(one != two)

    def test_values_that_are_not_slots(self):
        for slot in (Slot(Network(), (), ["x"]), decided_slot()):
            for value in (*OTHER_VALUES, slot.session_copy(), slot.all_events(), slot.network, len(slot), object(),
                          slot.slot_values(), Session(slot.network)):
                self.assertFalse(slot == value)
                self.assertFalse(value == slot)
                self.assertTrue(slot != value)

    def test_an_object_that_claims_equality_decides_nothing(self):
        class Agreeable:
            def __eq__(self, other):
                return True

        self.assertFalse(Slot(TRIO, (), ["x"]) == Agreeable())


class BesideASessionTest(SlotTestCase):
    """Every step and every query of drawn slots against a session that performs the same steps."""

    def check_queries(self, slot, model):
        session = model.session
        self.assertEqual((len(slot), repr(slot.all_events())), (len(session), repr(session.all_events())))
        self.assertTrue(slot.session_copy() == session)
        for name in honest_of(slot):
            for query in SESSION_QUERIES:
                self.assertEqual(repr(getattr(slot, query)(name)), repr(getattr(session, query)(name)))
            for ballot in (*slot_ballots(slot), (1, "other"), (7, "x"), None):
                self.assertEqual(repr(perform(slot, ("reason_of", name, ballot))),
                                 repr(perform(session, ("reason_of", name, ballot))))
            self.assertEqual(repr(slot.nominated_for(name)), repr(model.nominated_for(name)))
            self.assertEqual(repr(slot.decided_by(name)), repr(model.decided_by(name)))
            for number, value in itertools.product(range(1, 7), slot.slot_values()):
                self.assertIs(slot.is_prepared(name, number, value), model.prepared(name, number, value))

    def check_steps(self, chance, slot, model, steps):
        words = []
        for step in steps:
            found = perform(slot, step)
            self.assertEqual(repr(found), repr(perform(model, step)))
            if found and isinstance(found[0], str):
                words.append(found[0])
            else:
                words.append((step[0], len(found)))
        return words

    def test_drawn_steps(self):
        words = []
        for chance, network, faulty in drawn_cases(123, range(1, 7), 14):
            values = chance.sample(["x", "y", "z", "aa"], chance.randint(1, 3))
            slot, model = Slot(network, faulty, values), SlotModel(network, faulty, values)
            for _ in range(50):
                step = drawn_slot_step(chance, slot, (1, 2, 6))
                if step is not None:
                    words += self.check_steps(chance, slot, model, [step])
            self.check_queries(slot, model)
        self.assertTrue({"AlreadyVoted", "AlreadyAccepted", "NotNominated", "NotPrepared"} <= set(words))
        for word in ("nominate", "prepare", "commit", "receive"):
            self.assertGreater(len([entry for entry in words if entry[0] == word]), 20, word)

    def test_drawn_decisions(self):
        decided = prepared = 0
        for chance, network, faulty in drawn_cases(124, range(2, 7), 8, (0, 0.2)):
            values = chance.sample(["x", "y", "z"], chance.randint(1, 3))
            slot, model = Slot(network, faulty, values), SlotModel(network, faulty, values)
            drawn_decision(chance, slot, 2)
            for event in slot.all_events():
                if event[0] == "voted":
                    model.session.vote(*event[1:])
                elif event[0] == "received":
                    model.session.receive(*event[1:])
            self.check_queries(slot, model)
            decided += sum(len(slot.decided_by(name)) for name in honest_of(slot))
            prepared += sum(slot.is_prepared(name, 2, value) for name in honest_of(slot) for value in values)
        self.assertGreater(decided, 30)
        self.assertGreater(prepared, 30)

    def test_unknown_and_faulty_nodes(self):
        slot = Slot(TRIO, ["c"], ["x"])
        for query in (*[getattr(slot, name) for name in SESSION_QUERIES], slot.nominated_for, slot.decided_by):
            self.assert_unknown(query, {}, {"node": "name"})
            self.assert_refused(slot, FaultyNode, {"name": "c"}, query, "c")
            self.assert_refused(slot, FaultyNode, {"name": "c"}, query, node="c")
        for ballot in ((1, "x"), 7, (True, "x")):
            self.assert_unknown(slot.reason_of, {"ballot": ballot}, {"node": "name"})
            self.assert_refused(slot, FaultyNode, {"name": "c"}, slot.reason_of, "c", ballot)

    def test_reasons(self):
        slot = decided_slot()
        self.assertEqual(slot.reason_of("a", (0, "x")), ("support", ("a", "b")))
        self.assertEqual(slot.reason_of(ballot=(1, "x"), node="b"), ("support", ("a", "b")))
        for value in (*ANY_VALUES, *BROKEN_BALLOTS.values(), (True, "x"), (2, "x"), [0, "x"]):
            self.assert_refused(slot, NotAccepted, {"name": "a", "ballot": value}, slot.reason_of, "a", value)

    def test_no_vote(self):
        self.assertFalse(hasattr(Slot(TRIO, (), ["x"]), "vote"))


class NominateTest(SlotTestCase):

    def test_example(self):
        self.assertEqual(Slot(TRIO, (), ["x"]).nominate("a", "x"), (("voted", "a", (0, "x"), "commit"),))

    def test_a_value_is_nominated_by_confirming(self):
        slot = Slot(TRIO, (), ["x", "y"])
        slot.nominate("a", "x")
        slot.nominate("b", "x")
        self.assertEqual(slot.nominated_for("a"), ())
        slot.receive("a", slot.message_of("b"))
        self.assertEqual(slot.accepted_by("a"), (((0, "x"), "commit"),))
        self.assertEqual(slot.nominated_for("a"), ())
        slot.receive("b", slot.message_of("a"))
        self.assertEqual((slot.nominated_for("a"), slot.nominated_for("b")), ((), ("x",)))
        slot.receive("a", slot.message_of("b"))
        self.assertEqual((slot.nominated_for("a"), slot.nominated_for("c")), (("x",), ()))

    def test_a_value_nominated_without_a_vote(self):
        slot = decided_slot()
        exchange(slot, "abc")
        self.assertEqual((slot.votes_of("c"), slot.nominated_for("c")), ((), ("x",)))

    def test_two_values(self):
        slot = Slot(ALONE, (), ["z", "x", "y"])
        self.assertEqual(slot.nominate("a", "z"), (
            ("voted", "a", (0, "z"), "commit"), ("accepted", "a", (0, "z"), "commit", ("support", ("a",))),
            ("confirmed", "a", (0, "z"), "commit", ("a",)),
        ))
        slot.nominate("a", "x")
        self.assertEqual(slot.nominated_for("a"), ("x", "z"))
        self.assertEqual(slot.decided_by("a"), ())

    def test_confirmed_abort_is_no_nomination(self):
        slot = Slot(PAIR, ["b"], ["x", "y"])
        slot.receive("a", ("b", (1, ("a",)), (), (((0, "x"), "abort"), ((0, "y"), "commit"))))
        self.assertEqual(len(slot.confirmed_by("a")), 2)
        self.assertEqual(slot.nominated_for("a"), ("y",))

    def test_already_voted_and_accepted(self):
        slot = Slot(TRIO, (), ["x", "y"])
        slot.nominate("a", "x")
        fields = {"name": "a", "ballot": (0, "x")}
        self.assert_refused(slot, AlreadyVoted, fields, slot.nominate, "a", "x")
        slot = decided_slot()
        self.assert_refused(slot, AlreadyVoted, fields, slot.nominate, "a", "x")
        exchange(slot, "abc")
        fields = {"name": "c", "ballot": (0, "x")}
        self.assert_refused(slot, AlreadyAccepted, fields, slot.nominate, "c", "x")
        slot.nominate("c", "y")

    def test_other_values(self):
        slot = Slot(TRIO, ["c"], ["x", "y", "z"])
        for value in OTHERS:
            self.assert_refused(slot, UnknownValue, {"value": value}, slot.nominate, "a", value)

    def test_faulty_and_unknown_nodes_come_first(self):
        slot = Slot(TRIO, ["b"], ["x"])
        for value in ("x", "w", 7, []):
            self.assert_refused(slot, FaultyNode, {"name": "b"}, slot.nominate, "b", value)
            self.assert_unknown(slot.nominate, {"value": value}, {"node": "name"})

    def test_arguments(self):
        self.assertEqual(Slot(TRIO, (), ["x"]).nominate(value="x", node="b"), (("voted", "b", (0, "x"), "commit"),))


class PrepareTest(SlotTestCase):

    def voted(self, node, ballots):
        return tuple(("voted", node, ballot, "abort") for ballot in ballots)

    def test_example(self):
        found = Slot(TRIO, (), ["x", "y"]).prepare("a", 1, "y")
        self.assertEqual(found, (("voted", "a", (1, "x"), "abort"),))

    def test_all_smaller_ballots_in_ascending_order(self):
        for number, value, expected in (
            (1, "x", []), (1, "y", [(1, "x")]), (1, "z", [(1, "x"), (1, "y")]),
            (2, "x", [(1, "y"), (1, "z")]), (2, "y", [(1, "x"), (1, "z"), (2, "x")]),
            (3, "z", [(1, "x"), (1, "y"), (2, "x"), (2, "y"), (3, "x"), (3, "y")]),
            (6, "x", [(number, value) for number in range(1, 6) for value in "yz"]),
            (6, "z", [(number, value) for number in range(1, 7) for value in "xy"]),
        ):
            slot = Slot(TRIO, (), ["z", "x", "y"])
            self.assertEqual(repr(slot.prepare("a", number, value)), repr(self.voted("a", expected)))
            self.assertEqual(len(slot), len(expected))
        self.assertEqual(repr(Slot(TRIO, (), ["x"]).prepare("a", 6, "x")), "()")

    def test_never_votes_with_the_number_0(self):
        slot = Slot(TRIO, (), ["x", "y", "z"])
        for value in "xyz":
            slot.prepare("a", 6, value)
        self.assertEqual({ballot[0] for ballot, answer in slot.votes_of("a")}, {1, 2, 3, 4, 5, 6})
        self.assertEqual({answer for ballot, answer in slot.votes_of("a")}, {"abort"})

    def test_only_what_is_left(self):
        slot = Slot(TRIO, (), ["x", "y"])
        slot.prepare("a", 2, "x")
        self.assertEqual(slot.prepare("a", 3, "x"), self.voted("a", [(2, "y")]))
        self.assertEqual(slot.prepare("a", 2, "y"), self.voted("a", [(1, "x"), (2, "x")]))
        self.assertEqual(repr(slot.prepare("a", 2, "y")), "()")
        self.assertEqual(repr(slot.prepare("a", 1, "x")), "()")
        self.assertEqual(len(slot), 4)
        self.assertEqual(len(slot.prepare("b", 2, "y")), 2)

    def test_a_ballot_for_which_the_node_voted_commit(self):
        slot = decided_slot()
        self.assertEqual(slot.prepare("a", 2, "y"), self.voted("a", [(2, "x")]))

    def test_a_ballot_that_the_node_accepted_without_voting(self):
        slot = decided_slot()
        exchange(slot, "abc")
        self.assertEqual(slot.votes_of("c"), ())
        self.assertIn(((1, "x"), "commit"), slot.accepted_by("c"))
        self.assertEqual(slot.prepare("c", 2, "y"), self.voted("c", [(2, "x")]))
        slot = Slot(PAIR, ["b"], ["x", "y"])
        slot.receive("a", ("b", (1, ("b",)), (), (((1, "x"), "abort"),)))
        self.assertEqual(slot.prepare("a", 2, "y"), self.voted("a", [(2, "x")]))

    def test_each_vote_is_a_step_with_its_events(self):
        slot = Slot(ALONE, (), ["x", "y"])
        found = slot.prepare("a", 2, "y")
        self.assertEqual([event[:3] for event in found], [
            (word, "a", ballot) for ballot in ((1, "x"), (2, "x")) for word in ("voted", "accepted", "confirmed")])
        self.assertEqual(len(slot), 2)
        self.assertEqual(slot.all_events(), found)

    def test_needs_no_nomination(self):
        slot = Slot(ALONE, (), ["x", "y"])
        slot.prepare("a", 3, "y")
        self.assertEqual(slot.nominated_for("a"), ())
        self.assertIs(slot.is_prepared("a", 3, "y"), True)

    def test_wrong_numbers_and_values(self):
        slot = Slot(TRIO, ["c"], ["x", "y", "z"])
        for number in WRONG_NUMBERS:
            for value in ("x", "w", 7):
                self.assert_refused(slot, InvalidNumber, {"value": number}, slot.prepare, "a", number, value)
        for value in OTHERS:
            for number in (1, 6):
                self.assert_refused(slot, UnknownValue, {"value": value}, slot.prepare, "a", number, value)

    def test_faulty_and_unknown_nodes_come_first(self):
        slot = Slot(TRIO, ["b"], ["x"])
        for number, value in ((1, "x"), (7, "x"), (1, "w"), (True, []), (None, None)):
            self.assert_refused(slot, FaultyNode, {"name": "b"}, slot.prepare, "b", number, value)
            self.assert_unknown(slot.prepare, {"number": number, "value": value}, {"node": "name"})

    def test_arguments(self):
        found = Slot(TRIO, (), ["x", "y"]).prepare(value="y", number=1, node="b")
        self.assertEqual(found, self.voted("b", [(1, "x")]))


class PreparedTest(SlotTestCase):

    def test_example(self):
        slot = Slot(TRIO, (), ["x", "y"])
        self.assertIs(slot.is_prepared("a", 1, "x"), True)
        self.assertIs(slot.is_prepared("a", 1, "y"), False)

    def test_by_confirming_abort(self):
        slot = Slot(TRIO, (), ["x", "y"])
        for node in "ab":
            slot.prepare(node, 1, "y")
        self.assertIs(slot.is_prepared("a", 1, "y"), False)
        slot.receive("a", slot.message_of("b"))
        self.assertEqual(slot.accepted_by("a"), (((1, "x"), "abort"),))
        self.assertIs(slot.is_prepared("a", 1, "y"), False)
        exchange(slot, "ab")
        self.assertIs(slot.is_prepared("a", 1, "y"), True)
        self.assertIs(slot.is_prepared("a", 2, "y"), False)
        self.assertIs(slot.is_prepared("c", 1, "y"), False)

    def test_which_ballots_count(self):
        # a confirms abort for exactly the ballots in the message.
        ballots = [(number, value) for number in range(1, 4) for value in "xyz"]
        for number, value in ballots:
            needed = [ballot for ballot in ballots if ballot < (number, value) and ballot[1] != value]
            for missing in (None, *needed):
                slot = Slot(PAIR, ["b"], ["x", "y", "z"])
                told = tuple((ballot, "abort") for ballot in needed if ballot != missing)
                slot.receive("a", ("b", (1, ("a",)), (), told))
                self.assertEqual(len(slot.confirmed_by("a")), len(told))
                self.assertIs(slot.is_prepared("a", number, value), missing is None)

    def test_confirmed_commit_does_not_prepare(self):
        slot = Slot(PAIR, ["b"], ["x", "y"])
        slot.receive("a", ("b", (1, ("a",)), (), (((1, "x"), "commit"),)))
        self.assertEqual(slot.confirmed_by("a"), (((1, "x"), "commit"),))
        self.assertIs(slot.is_prepared("a", 1, "y"), False)

    def test_one_value(self):
        slot = Slot(TRIO, (), ["x"])
        for number in range(1, 7):
            self.assertIs(slot.is_prepared("a", number, "x"), True)

    def test_wrong_numbers_and_values(self):
        slot = Slot(TRIO, ["c"], ["x", "y", "z"])
        for number in WRONG_NUMBERS:
            for value in ("x", "w", 7):
                self.assert_refused(slot, InvalidNumber, {"value": number}, slot.is_prepared, "a", number, value)
        for value in OTHERS:
            for number in (1, 6):
                self.assert_refused(slot, UnknownValue, {"value": value}, slot.is_prepared, "a", number, value)

    def test_faulty_and_unknown_nodes_come_first(self):
        slot = Slot(TRIO, ["b"], ["x"])
        for number, value in ((1, "x"), (7, "x"), (1, "w"), (True, [])):
            self.assert_refused(slot, FaultyNode, {"name": "b"}, slot.is_prepared, "b", number, value)
            self.assert_unknown(slot.is_prepared, {"number": number, "value": value}, {"node": "name"})

    def test_arguments(self):
        self.assertIs(Slot(TRIO, (), ["x", "y"]).is_prepared(value="x", number=1, node="b"), True)


class CommitTest(SlotTestCase):

    def test_example(self):
        slot = Slot(TRIO, (), ["x"])
        self.assert_refused(slot, NotNominated, {"name": "a", "value": "x"}, slot.commit, "a", 1, "x")

    def test_a_commit(self):
        slot = Slot(TRIO, (), ["x", "y"])
        for node in "ab":
            slot.nominate(node, "x")
        exchange(slot, "ab")
        self.assertEqual(slot.commit("a", 1, "x"), (("voted", "a", (1, "x"), "commit"),))

    def test_not_nominated_comes_before_not_prepared(self):
        slot = Slot(TRIO, (), ["x", "y"])
        self.assert_refused(slot, NotNominated, {"name": "a", "value": "y"}, slot.commit, "a", 2, "y")

    def test_a_vote_alone_does_not_nominate(self):
        slot = Slot(TRIO, (), ["x"])
        slot.nominate("a", "x")
        self.assert_refused(slot, NotNominated, {"name": "a", "value": "x"}, slot.commit, "a", 1, "x")

    def test_another_value_is_nominated(self):
        slot = Slot(ALONE, (), ["x", "y"])
        slot.nominate("a", "x")
        self.assert_refused(slot, NotNominated, {"name": "a", "value": "y"}, slot.commit, "a", 1, "y")
        self.assert_refused(slot, NotNominated, {"name": "b", "value": "x"}, slot.commit, "b", 1, "x")

    def test_not_prepared(self):
        slot = Slot(ALONE, (), ["x", "y"])
        slot.nominate("a", "y")
        for number in (1, 2, 6):
            fields = {"name": "a", "ballot": (number, "y")}
            self.assert_refused(slot, NotPrepared, fields, slot.commit, "a", number, "y")
        slot.prepare("a", 1, "y")
        self.assert_refused(slot, NotPrepared, {"name": "a", "ballot": (2, "y")}, slot.commit, "a", 2, "y")
        self.assertEqual(slot.commit("a", 1, "y")[0], ("voted", "a", (1, "y"), "commit"))

    def test_not_prepared_comes_before_already_voted(self):
        slot = Slot(TRIO, (), ["x", "y"])
        for node in "ab":
            slot.nominate(node, "y")
        exchange(slot, "ab")
        slot.prepare("a", 2, "x")
        self.assertEqual(slot.votes_of("a")[1:], (((1, "y"), "abort"),))
        fields = {"name": "a", "ballot": (1, "y")}
        self.assert_refused(slot, NotPrepared, fields, slot.commit, "a", 1, "y")

    def test_already_voted_and_accepted(self):
        slot = decided_slot()
        fields = {"name": "a", "ballot": (1, "x")}
        self.assert_refused(slot, AlreadyVoted, fields, slot.commit, "a", 1, "x")
        exchange(slot, "abc")
        fields = {"name": "c", "ballot": (1, "x")}
        self.assert_refused(slot, AlreadyAccepted, fields, slot.commit, "c", 1, "x")
        # A vote for "abort" is a vote, too.
        slot = Slot(TRIO, (), ["x", "y"])
        for node in "ab":
            slot.nominate(node, "x")
        exchange(slot, "ab")
        slot.prepare("a", 1, "y")
        self.assert_refused(slot, AlreadyVoted, {"name": "a", "ballot": (1, "x")}, slot.commit, "a", 1, "x")

    def test_number_6(self):
        slot = Slot(ALONE, (), ["x", "y"])
        slot.nominate("a", "y")
        slot.prepare("a", 6, "y")
        self.assertEqual(slot.commit("a", 6, "y")[0], ("voted", "a", (6, "y"), "commit"))
        self.assertEqual(slot.decided_by("a"), ("y",))

    def test_wrong_numbers_and_values(self):
        slot = Slot(TRIO, ["c"], ["x", "y", "z"])
        for number in WRONG_NUMBERS:
            for value in ("x", "w", 7):
                self.assert_refused(slot, InvalidNumber, {"value": number}, slot.commit, "a", number, value)
        for value in OTHERS:
            for number in (1, 6):
                self.assert_refused(slot, UnknownValue, {"value": value}, slot.commit, "a", number, value)

    def test_faulty_and_unknown_nodes_come_first(self):
        slot = Slot(TRIO, ["b"], ["x"])
        for number, value in ((1, "x"), (7, "x"), (1, "w"), (True, [])):
            self.assert_refused(slot, FaultyNode, {"name": "b"}, slot.commit, "b", number, value)
            self.assert_unknown(slot.commit, {"number": number, "value": value}, {"node": "name"})

    def test_arguments(self):
        slot = Slot(ALONE, (), ["x"])
        slot.nominate("a", "x")
        self.assertEqual(slot.commit(value="x", number=3, node="a")[0], ("voted", "a", (3, "x"), "commit"))


class ReceiveTest(SlotTestCase):

    def test_as_in_a_session(self):
        slot = Slot(TRIO, ["c"], ["x", "y"])
        told = ("c", (1, ("c",)), (((0, "x"), "commit"),), (((3, "y"), "abort"),))
        slot.nominate("a", "x")
        self.assertEqual(slot.receive("a", told), (
            ("received", "a", told), ("accepted", "a", (0, "x"), "commit", ("support", ("a", "c"))),
        ))
        self.assertEqual(slot.received_by("a"), (told,))

    def test_invalid_messages(self):
        slot = Slot(TRIO, ["c"], ["x", "y"])
        for value in (*ANY_VALUES, *BROKEN_MESSAGES.values()):
            self.assert_refused(slot, InvalidMessage, {"value": value}, slot.receive, "a", value)

    def test_values_of_other_slots(self):
        slot = Slot(TRIO, ["c"], ["x", "y"])
        good, wrong = ((1, "x"), "commit"), ((1, "z"), "abort")
        for told in (
            ("c", NEED, (wrong,), ()), ("c", NEED, (), (wrong,)), ("c", NEED, (good, wrong), ()),
            ("c", NEED, (good,), (good, wrong)), ("c", NEED, (wrong,), (wrong,)),
            ("c", NEED, (((0, "xx"), "abort"),), ()),
            # The place in the order is that of InvalidMessage, so neither the own nor the honest sender matters.
            ("a", NEED, (wrong,), ()), ("b", NEED, (wrong,), ()),
        ):
            self.assert_refused(slot, InvalidMessage, {"value": told}, slot.receive, "a", told)

    def test_own_messages_and_those_that_were_not_sent(self):
        slot = Slot(TRIO, ["c"], ["x", "y"])
        self.assert_refused(slot, OwnMessage, {"name": "a"}, slot.receive, "a", slot.message_of("a"))
        told = ("b", NEED, (((1, "x"), "commit"),), ())
        self.assert_refused(slot, NotSent, {"name": "b"}, slot.receive, "a", told)
        self.assert_refused(slot, OwnMessage, {"name": "b"}, slot.receive, "b", told)

    def test_faulty_and_unknown_nodes_come_first(self):
        slot = Slot(TRIO, ["b"], ["x"])
        for told in (slot.message_of("a"), None, ("a", NEED, (((1, "z"), "abort"),), ())):
            self.assert_refused(slot, FaultyNode, {"name": "b"}, slot.receive, "b", told)
            self.assert_unknown(slot.receive, {"message": told}, {"node": "name"})

    def test_arguments(self):
        slot = Slot(TRIO, ["c"], ["x"])
        told = ("c", NEED, (), ())
        self.assertEqual(slot.receive(message=told, node="b"), (("received", "b", told),))
        value = ["c", [1, ["c"]], [((1, "x"), "abort")], []]
        kept = copy.deepcopy(value)
        with self.assertRaises(InvalidMessage):
            slot.receive("a", value)
        self.assertEqual(value, kept)


class DecidedTest(SlotTestCase):

    def test_decided_by_confirming(self):
        slot = decided_slot()
        self.assertEqual([slot.decided_by(node) for node in "abc"], [("x",), ("x",), ()])
        exchange(slot, "abc")
        self.assertEqual(slot.decided_by("c"), ("x",))

    def test_accepted_is_not_decided(self):
        slot = Slot(PAIR, ["b"], ["x"])
        slot.receive("a", ("b", (2, ("a", "b")), (), (((1, "x"), "commit"),)))
        self.assertEqual(slot.decided_by("a"), ("x",))
        slot = Slot(FOUR, ["b", "c"], ["x"])
        for sender in "bc":
            slot.receive("a", (sender, (1, ("d",)), (), (((1, "x"), "commit"),)))
        self.assertEqual((slot.accepted_by("a"), slot.decided_by("a")), ((((1, "x"), "commit"),), ()))

    def test_neither_nominations_nor_aborts_decide(self):
        slot = Slot(PAIR, ["b"], ["x", "y"])
        slot.receive("a", ("b", (1, ("a",)), (), (((0, "x"), "commit"), ((1, "y"), "abort"))))
        self.assertEqual(len(slot.confirmed_by("a")), 2)
        self.assertEqual(repr(slot.decided_by("a")), "()")

    def test_several_values_and_several_ballots_of_one(self):
        slot = Slot(PAIR, ["b"], ["x", "y", "z"])
        told = tuple(sorted(((number, value), "commit") for number, value in ((1, "z"), (2, "x"), (6, "z"), (0, "y"))))
        slot.receive("a", ("b", (1, ("a",)), (), told))
        self.assertEqual(slot.decided_by("a"), ("x", "z"))
        self.assertEqual(slot.nominated_for("a"), ("y",))

    def test_arguments(self):
        slot = decided_slot()
        self.assertEqual((slot.decided_by(node="a"), slot.nominated_for(node="b")), (("x",), ("x",)))


class SlotExchangeTest(SlotTestCase):
    """[55] with a slot in the place of a session."""

    def test_the_same_events_as_in_its_session(self):
        lengths = []
        for chance, network, faulty in drawn_cases(125, range(2, 7), 10):
            slot = drawn_slot(chance, Slot(network, faulty, ["x", "y"]), 20)
            session = slot.session_copy()
            honest = honest_of(slot)
            nodes = chance.sample(honest, chance.randint(0, len(honest)))
            nodes = nodes + nodes[:1]
            found = exchange(slot, nodes)
            self.assertEqual(repr(found), repr(exchange(session, nodes)))
            self.assertTrue(slot.session_copy() == session)
            self.assertEqual(exchange(slot, nodes), ())
            lengths.append(len(found))
        self.assertGreater(max(lengths), 20)

    def test_exceptions(self):
        slot = Slot(FOUR, ["c", "b"], ["x"])
        slot.nominate("a", "x")
        for nodes, name in ((["a", "d", "c"], "c"), (["a", "c", "b"], "c"), (("b", "c"), "b")):
            self.assert_refused(slot, FaultyNode, {"name": name}, exchange, slot, nodes)
        self.assert_unknown(exchange, {"session": slot}, {"nodes": "set"})
        self.assert_refused(slot, UnknownNode, {"name": "z"}, exchange, slot, ["c", "z"])

    def test_arguments(self):
        slot = Slot(PAIR, (), ["x"])
        nodes = ["b", "a", "b"]
        found = exchange(nodes=nodes, session=slot)
        self.assertEqual([event[0] for event in found], ["received", "received"])
        self.assertEqual((nodes, len(slot)), (["b", "a", "b"], 2))


class LimitsTest(SlotTestCase):

    def test_six_nodes_and_many_steps(self):
        chance = random.Random(126)
        network = Network([(name, (4, tuple("abcdef"))) for name in "abcdef"])
        slot = Slot(network, ["f"], ["x", "y", "z"])
        while len(slot) < 400:
            drawn_slot(chance, slot, 20, (1, 2, 3, 4, 5, 6))
        self.assertTrue(slot.copy() == slot)
        self.assertEqual(len(slot.session_copy()), len(slot))

    def test_two_slots_in_turn(self):
        one, other = Slot(TRIO, (), ["x"]), Slot(APART, (), ["y"])
        one.nominate("a", "x")
        other.nominate("a", "y")
        self.assertEqual((one.nominated_for("a"), other.nominated_for("a")), ((), ("y",)))
        self.assertEqual((one.votes_of("b"), other.votes_of("b")), ((), ()))

    def test_names_that_are_not_nodes(self):
        slot = Slot(Network(), (), ["x"])
        for name in NOT_NODES:
            self.assert_raises(UnknownNode, {"name": name}, slot.nominate, name, "x")


if __name__ == "__main__":
    unittest.main()
