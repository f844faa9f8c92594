"""Promises [71] and [72], and [2], [3], [4] and [20] as far as they bear on completion.py."""

import itertools
import random
import unittest

from oathmoot.completion import completion, is_completion
from oathmoot.errors import MootError, NoBallotLeft, NotTolerated, UnknownNode
from oathmoot.exchange import exchange
from oathmoot.networks import Network
from oathmoot.slots import Slot
from oathmoot.tolerance import tolerated_sets
from tests import direct
from tests.cases import RaisingTestCase
from tests.samples import APART, FOUR, OTHER_VALUES, PAIR, TRIO, drawn_network, subsets
from tests.slot_model import drawn_decision, drawn_slot, honest_of
from tests.test_messages import ANY_VALUES, BROKEN_MESSAGES
from tests.test_slots import decided_slot, state_of

LENGTHS = {"nominate": 3, "prepare": 4, "commit": 4, "receive": 3}
# a needs only itself, and the others follow it.
LEAD = Network([("a", (1, ("a",))), ("b", (2, ("a", "b"))), ("c", (1, ("a",)))])


def completes(slot, faulty, steps):
    """[71] by its words, for a tuple or list of any values."""
    twin = slot.copy()
    for step in steps:
        if type(step) is not tuple or not step or type(step[0]) is not str or LENGTHS.get(step[0]) != len(step):
            return False
        if type(step[1]) is not str or step[1] not in slot.network.node_names() or step[1] in faulty:
            return False
        try:
            getattr(twin, step[0])(*step[1:])
        except MootError:
            return False
        if step[0] == "receive" and step[2][0] in faulty:
            return False
    outside = [name for name in slot.network.node_names() if name not in faulty]
    if any(name in slot.faulty for name in outside):
        return False
    decided = [twin.decided_by(name) for name in outside]
    return all(len(values) == 1 for values in decided) and len(set(decided)) <= 1


def tolerated_slots(seed, times, tries):
    """Slots after drawn steps, each with a tolerated set that contains its faulty nodes and leaves some node."""
    chance = random.Random(seed)
    found = 0
    while found < times:
        network = drawn_network(chance, chance.choice((1, 2, 3, 3, 4, 5, 6)))
        sets = [nodes for nodes in tolerated_sets(network) if len(nodes) < len(network)]
        if not sets:
            continue
        larger = chance.choice(sets)
        faulty = [name for name in larger if chance.random() < 0.6]
        slot = Slot(network, faulty, chance.sample(["x", "y", "z"], chance.randint(1, 3)))
        found += 1
        yield chance, tries(chance, slot), larger


class CompletionTestCase(RaisingTestCase):

    def check_completion(self, slot, faulty):
        before = state_of(slot)
        steps = completion(slot, faulty)
        self.assertIsInstance(steps, tuple)
        self.assertTrue(completes(slot, faulty, steps))
        for form in (steps, list(steps)):
            self.assertIs(is_completion(slot, faulty, form), True)
        self.assertEqual(state_of(slot), before)
        return steps


class CompletionTest(CompletionTestCase):

    def test_example(self):
        self.check_completion(Slot(TRIO, (), ["x", "y"]), ("a", "b", "c"))

    def test_new_slots(self):
        for network in (TRIO, FOUR, PAIR, LEAD, Network()):
            for faulty in subsets(network.node_names()):
                for values in (["x"], ["y", "x"], ["x", "y", "z"]):
                    if direct.tolerates(network, faulty):
                        for own in subsets(faulty):
                            self.check_completion(Slot(network, own, values), faulty)
                    else:
                        self.assert_raises(NotTolerated, {}, completion, Slot(network, (), values), faulty)

    def test_slots_after_drawn_steps(self):
        lengths = []
        for chance, slot, faulty in tolerated_slots(131, 120, lambda chance, slot: drawn_slot(chance, slot, 50)):
            lengths.append(len(self.check_completion(slot, faulty)))
        self.assertGreater(max(lengths), 50)

    def test_slots_in_which_some_or_all_have_decided(self):
        counts = []
        for chance, slot, faulty in tolerated_slots(132, 100, lambda chance, slot: drawn_decision(chance, slot, 2)):
            outside = [name for name in slot.network.node_names() if name not in faulty]
            decided = {value for name in outside for value in slot.decided_by(name)}
            twin = slot.copy()
            for step in self.check_completion(slot, faulty):
                getattr(twin, step[0])(*step[1:])
            after = {twin.decided_by(name) for name in outside}
            self.assertEqual(len(after), 1)
            if decided:
                self.assertEqual(after, {tuple(decided)})
            some = [name for name in outside if slot.decided_by(name)]
            counts.append("all" if len(some) == len(outside) else "some" if some else "none")
        for count in ("all", "some", "none"):
            self.assertGreater(counts.count(count), 2, count)

    def test_every_tolerated_set_that_contains_the_faulty_nodes(self):
        chance = random.Random(133)
        larger = 0
        for _ in range(40):
            network = drawn_network(chance, chance.randint(2, 5))
            sets = tolerated_sets(network)
            faulty = chance.choice(sets)
            slot = drawn_decision(chance, Slot(network, faulty, ["x", "y"]), 1)
            for nodes in subsets(network.node_names()):
                if nodes in sets and set(faulty) <= set(nodes):
                    self.check_completion(slot, nodes)
                    larger += len(nodes) > len(faulty)
                else:
                    self.assert_raises(NotTolerated, {}, completion, slot, nodes)
        self.assertGreater(larger, 20)

    def test_a_ballot_that_is_stuck(self):
        # a voted for (1, "x") and d against it, so that with b faulty neither answer has a quorum of its own.
        slot = Slot(FOUR, ["b"], ["x", "y"])
        for node in "acd":
            slot.nominate(node, "x")
            slot.nominate(node, "y")
        exchange(slot, "acd")
        slot.commit("a", 1, "x")
        slot.prepare("c", 2, "y")
        slot.prepare("d", 2, "y")
        exchange(slot, "acd")
        self.check_completion(slot, ["b"])
        twin = slot.copy()
        for step in completion(slot, ["b"]):
            getattr(twin, step[0])(*step[1:])
        self.assertEqual({twin.decided_by(node) for node in "acd"}, {("x",)})

    def test_many_rounds(self):
        # In each round some nodes vote for one value and some against it, up to the number 5.
        for seed in range(8):
            chance = random.Random(seed)
            slot = Slot(FOUR, ["d"], ["x", "y", "z"])
            for node, value in itertools.product("abc", "xyz"):
                slot.nominate(node, value)
            exchange(slot, "abc")
            for number in (1, 2, 3, 4, 5):
                for node in "abc":
                    slot.prepare(node, number, chance.choice("xyz"))
                if chance.random() < 0.7:
                    exchange(slot, chance.sample("abc", 2))
                for node, value in itertools.product("abc", "xyz"):
                    try:
                        slot.commit(node, number, value)
                    except MootError:
                        pass
                told = tuple(((number, value), "commit") for value in "xyz")
                slot.receive(chance.choice("abc"), ("d", (1, ("d",)), told, told))
            self.check_completion(slot, ["d"])

    def test_400_steps(self):
        chance = random.Random(134)
        network = Network([(name, (5, tuple("abcdef"))) for name in "abcdef"])
        slot = Slot(network, ["f"], ["x", "y", "z"])
        while len(slot) < 400:
            drawn_slot(chance, slot, 5, (1, 2, 3, 4, 5))
            if any(ballot[0] == 6 for name in "abcde" for ballot, answer in slot.votes_of(name)):
                self.fail("a vote on a ballot with the last number")
        self.check_completion(slot, ["f"])

    def test_all_nodes(self):
        slot = decided_slot()
        self.assertEqual([step for step in completion(slot, "abc") if step[1] in "abc"], [])


class WrongCompletionTest(CompletionTestCase):

    def test_unknown_nodes_come_first(self):
        slot = Slot(FOUR, ["d"], ["x"])
        self.assert_unknown(completion, {"slot": slot}, {"faulty": "set"})
        self.assert_raises(UnknownNode, {"name": "z"}, completion, slot, ["b", "z", "y"])
        self.assert_raises(UnknownNode, {"name": "a"}, completion, Slot(Network(), (), ["x"]), ["a"])

    def test_not_tolerated(self):
        self.assert_raises(NotTolerated, {}, completion, Slot(PAIR, (), ["x"]), ["b"])
        self.assert_raises(NotTolerated, {}, completion, Slot(TRIO, (), ["x"]), ["c"])
        self.assert_raises(NotTolerated, {}, completion, Slot(APART, (), ["x"]), ())

    def test_a_faulty_node_of_the_slot_that_is_not_in_the_set(self):
        slot = Slot(FOUR, ["d"], ["x"])
        for faulty in ((), ["a"], ["b", "b"]):
            self.assert_raises(NotTolerated, {}, completion, slot, faulty)
        self.check_completion(slot, ["d"])
        self.check_completion(slot, "abcd")

    def last_vote(self, node, faulty):
        slot = Slot(FOUR, faulty, ["x", "y"])
        slot.prepare(node, 6, "y")
        return slot

    def test_no_ballot_left(self):
        for node in "abc":
            slot = self.last_vote(node, ["d"])
            before = state_of(slot)
            self.assert_raises(NoBallotLeft, {}, completion, slot, ["d"])
            self.assertEqual(state_of(slot), before)

    def test_a_last_vote_inside_the_set(self):
        slot = self.last_vote("d", ())
        self.assert_raises(NoBallotLeft, {}, completion, slot, ())
        self.assert_raises(NoBallotLeft, {}, completion, slot, ["a"])
        self.check_completion(slot, ["d"])
        self.check_completion(slot, ["a", "b", "c", "d"])

    def test_not_tolerated_comes_before_no_ballot_left(self):
        self.assert_raises(NotTolerated, {}, completion, self.last_vote("a", ["d"]), ())
        self.assert_raises(NotTolerated, {}, completion, self.last_vote("a", ()), ["c", "d"])

    def test_a_vote_for_commit_on_the_last_number(self):
        slot = Slot(LEAD, (), ["x"])
        slot.nominate("a", "x")
        slot.commit("a", 6, "x")
        self.assertEqual(slot.decided_by("a"), ("x",))
        # The slot is complete without b and c, but a has used the last number.
        self.assertIs(is_completion(slot, ["b", "c"], ()), True)
        self.assert_raises(NoBallotLeft, {}, completion, slot, ["b", "c"])

    def test_a_vote_on_the_number_5_is_no_last_vote(self):
        slot = Slot(FOUR, ["d"], ["x", "y"])
        slot.prepare("a", 5, "y")
        slot.prepare("b", 6, "x")
        self.assertEqual(max(ballot[0] for ballot, answer in slot.votes_of("b")), 5)
        self.check_completion(slot, ["d"])

    def test_what_faulty_nodes_say_of_the_last_number(self):
        slot = Slot(FOUR, ["d"], ["x", "y"])
        told = tuple(((6, value), answer) for value in "xy" for answer in ("abort", "commit"))
        for node in "abc":
            slot.receive(node, ("d", (1, ("d",)), told, told))
        self.check_completion(slot, ["d"])

    def test_arguments(self):
        slot = Slot(FOUR, ["d"], ["x", "y"])
        faulty = ["d", "d"]
        steps = completion(faulty=faulty, slot=slot)
        self.assertEqual(faulty, ["d", "d"])
        self.assertTrue(completes(slot, ["d"], steps))
        self.assertEqual(repr(completion(slot, ("d",))), repr(steps))

    def test_drawn_sets_in_any_order_with_duplicates(self):
        for chance, slot, faulty in tolerated_slots(135, 20, lambda chance, slot: drawn_slot(chance, slot, 20)):
            passed = list(faulty) * 2
            chance.shuffle(passed)
            self.assertTrue(completes(slot, faulty, completion(slot, passed)))


class IsCompletionTest(CompletionTestCase):

    def test_example(self):
        self.assertIs(is_completion(Slot(TRIO, (), ["x"]), (), []), False)

    def test_a_slot_that_is_complete_already(self):
        slot = decided_slot()
        self.assertIs(is_completion(slot, (), ()), False)
        exchange(slot, "abc")
        for form in ((), []):
            self.assertIs(is_completion(slot, (), form), True)

    def test_whether_the_set_is_tolerated_does_not_matter(self):
        slot = decided_slot()
        self.assertIs(direct.tolerates(TRIO, ["c"]), False)
        self.assertIs(is_completion(slot, ["c"], ()), True)
        self.assertIs(is_completion(slot, ["b", "c"], ()), True)
        self.assertIs(is_completion(slot, ["a"], ()), False)

    def test_a_faulty_node_outside_the_set(self):
        slot = Slot(TRIO, ["c"], ["x"])
        for node in "ab":
            slot.nominate(node, "x")
        exchange(slot, "ab")
        for node in "ab":
            slot.commit(node, 1, "x")
        exchange(slot, "ab")
        self.assertIs(is_completion(slot, ["c"], ()), True)
        self.assertIs(is_completion(slot, (), ()), False)
        self.assertIs(is_completion(slot, ["b"], ()), False)

    def test_no_node_outside_the_set(self):
        slot = Slot(TRIO, (), ["x"])
        self.assertIs(is_completion(slot, "abc", ()), True)
        self.assertIs(is_completion(slot, "abc", (("nominate", "a", "x"),)), False)
        self.assertIs(is_completion(Slot(Network(), (), ["x"]), (), []), True)

    def test_other_values_for_other_nodes(self):
        slot = Slot(APART, (), ["x", "y"])
        steps = (("nominate", "a", "x"), ("commit", "a", 1, "x"), ("nominate", "b", "y"), ("prepare", "b", 1, "y"),
                 ("commit", "b", 1, "y"))
        self.assertIs(is_completion(slot, (), steps), False)
        self.assertIs(is_completion(slot, ["b"], steps[:2]), True)
        self.assertIs(is_completion(slot, ["a"], steps[2:]), True)
        same = (*steps[:2], ("nominate", "b", "x"), ("commit", "b", 1, "x"))
        self.assertIs(is_completion(slot, (), same), True)

    def test_two_values_for_one_node(self):
        slot = Slot(PAIR, ["b"], ["x", "y"])
        told = tuple(((1, value), "commit") for value in "xy")
        slot.receive("a", ("b", (1, ("a",)), (), told))
        self.assertEqual(slot.decided_by("a"), ("x", "y"))
        self.assertIs(is_completion(slot, ["b"], ()), False)

    def test_the_slot_does_not_change(self):
        slot = Slot(FOUR, ["d"], ["x"])
        before = state_of(slot)
        steps = completion(slot, ["d"])
        for value in (steps, steps[:-1], (*steps, None), (*steps, ("nominate", "z", "x"))):
            is_completion(slot, ["d"], value)
            self.assertEqual(state_of(slot), before)

    def changed(self, steps):
        """Steps of which one is left out, moved, repeated or written in another way, or has another entry."""
        others = ("a", "b", "d", "z", "", "x", "y", "w", 1, 6, 7, True, None, (), [], "nominate", "commit", "receive")
        for at, step in enumerate(steps):
            rest = (*steps[:at], *steps[at + 1:])
            yield rest
            yield (*steps, step)
            for place in range(0, len(steps), 3):
                yield (*rest[:place], step, *rest[place:])
            for value in (list(step), step[:-1], (*step, step[-1]), step[1:], (step,), (), None, "commit", step[0]):
                yield (*steps[:at], value, *steps[at + 1:])
            for place, value in itertools.product(range(len(step)), others):
                yield (*steps[:at], (*step[:place], value, *step[place + 1:]), *steps[at + 1:])

    def check_changed(self, slot, faulty, changes):
        answers = []
        for steps in changes:
            expected = completes(slot, faulty, steps)
            self.assertIs(is_completion(slot, faulty, steps), expected, steps)
            self.assertIs(is_completion(slot, faulty, list(steps)), expected, steps)
            answers.append(expected)
        return answers

    def test_changed_steps(self):
        slot = Slot(LEAD, (), ["x", "y"])
        told = (((0, "x"), "commit"), ((1, "x"), "commit"))
        steps = (("nominate", "a", "x"), ("commit", "a", 1, "x"), ("receive", "b", ("a", (1, ("a",)), told, told)),
                 ("nominate", "c", "x"), ("receive", "c", ("a", (1, ("a",)), told, told)))
        self.assertTrue(completes(slot, (), steps))
        self.assertEqual({True, False}, set(self.check_changed(slot, (), self.changed(steps))))

    def test_drawn_steps_changed(self):
        answers = []
        for chance, slot, faulty in tolerated_slots(136, 25, lambda chance, slot: drawn_slot(chance, slot, 20)):
            changes = list(self.changed(completion(slot, faulty)))
            answers += self.check_changed(slot, faulty, chance.sample(changes, min(25, len(changes))))
        self.assertGreater(answers.count(True), 30)
        self.assertGreater(answers.count(False), 30)

    def test_steps_by_nodes_in_the_set_and_messages_from_them(self):
        slot = Slot(FOUR, (), ["x", "y"])
        steps = completion(slot, ["d"])
        message = slot.message_of("d")
        for step in (("nominate", "d", "x"), ("prepare", "d", 1, "x"), ("receive", "d", slot.message_of("a")),
                     ("receive", "a", message)):
            for at in (0, len(steps)):
                changed = (*steps[:at], step, *steps[at:])
                self.assertIs(is_completion(slot, ["d"], changed), False)
                # Where d is outside of the set, such a step does no harm, but d has to decide as well.
                self.assertIs(is_completion(slot, (), changed), completes(slot, (), changed))
        everyone = completion(slot, ())
        self.assertIs(is_completion(slot, (), (("receive", "a", message), *everyone)), True)

    def test_a_prepare_that_votes_on_nothing(self):
        slot = Slot(LEAD, (), ["x"])
        steps = completion(slot, ())
        self.assertIs(is_completion(slot, (), (("prepare", "a", 1, "x"), *steps)), True)
        self.assertIs(is_completion(slot, (), (("prepare", "a", 7, "x"), *steps)), False)

    def test_votes_are_no_slot_steps(self):
        slot = Slot(LEAD, (), ["x"])
        steps = completion(slot, ())
        self.assertIs(is_completion(slot, (), (("vote", "a", (3, "x"), "commit"), *steps)), False)
        for word in ("nominated_for", "message_of", "copy", "exchange"):
            self.assertIs(is_completion(slot, (), ((word, "a", "x"), *steps)), False)

    def test_entries_of_every_kind(self):
        slot = Slot(LEAD, (), ["x"])
        steps = completion(slot, ())
        for value in (*OTHER_VALUES, "w", ["x"]):
            for step in (("nominate", value, "x"), ("prepare", value, 1, "x"), ("commit", value, 1, "x"),
                         ("receive", value, slot.message_of("a")), ("nominate", "a", value), ("prepare", "a", 1, value),
                         ("commit", "a", 1, value), (value, "a", 1, "x"), (value, "a", "x"), value):
                self.assertIs(is_completion(slot, (), (*steps, step)), False, step)
        for number in (0, 7, True, None, "1", [1]):
            self.assertIs(is_completion(slot, (), (*steps, ("prepare", "a", number, "x"))), False)
        for message in (*ANY_VALUES, *BROKEN_MESSAGES.values()):
            self.assertIs(is_completion(slot, (), (*steps, ("receive", "b", message))), False)

    def test_values_of_every_kind(self):
        slot = decided_slot()
        exchange(slot, "abc")
        for value in (*ANY_VALUES, *OTHER_VALUES, ("nominate", "c", "y"), ["nominate", "c", "y"],
                      [["nominate", "c", "y"]], "nominate"):
            if value not in ((), []):
                self.assertIs(is_completion(slot, (), value), False, value)

    def test_unknown_nodes(self):
        slot = Slot(FOUR, ["d"], ["x"])
        for steps in ((), None, 7, (("nominate", "z", "x"),)):
            self.assert_unknown(is_completion, {"slot": slot, "steps": steps}, {"faulty": "set"})

    def test_arguments(self):
        slot = decided_slot()
        faulty, steps = ["c", "c"], [("nominate", "a", "y")]
        self.assertIs(is_completion(steps=steps, slot=slot, faulty=faulty), True)
        self.assertEqual((faulty, steps), (["c", "c"], [("nominate", "a", "y")]))


class CompleteGuaranteeTest(CompletionTestCase):
    """The last sentence of the first case of [6]."""

    def test_whatever_the_faulty_nodes_send(self):
        for chance, slot, faulty in tolerated_slots(137, 60, lambda chance, slot: drawn_slot(chance, slot, 10)):
            outside = [name for name in honest_of(slot) if name not in faulty]
            for number in (1, 2, 3):
                for name in outside:
                    statements = [((number, value), answer) for value in slot.slot_values()
                                  for answer in ("abort", "commit")]
                    for sender in slot.faulty:
                        told = tuple(sorted(chance.sample(statements, chance.randint(0, len(statements)))))
                        slot.receive(name, (sender, (1, (sender,)), told, told))
                drawn_slot(chance, slot, 15, (number,))
                self.check_completion(slot, faulty)


if __name__ == "__main__":
    unittest.main()
