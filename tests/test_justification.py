"""Promise [54], and [2], [3] and [20] as far as they bear on it."""

import random
import unittest

from oathmoot.errors import InvalidHistory, NotAccepted
from oathmoot.histories import is_valid_history, justification
from oathmoot.networks import Network
from oathmoot.sessions import Session
from tests import model
from tests.cases import NOT_NODES, RaisingTestCase
from tests.samples import OTHER_VALUES, PAIR, TRIO, drawn_cases, drawn_network, drawn_requirement, nested
from tests.test_histories import EVENTS, events_of_other_forms
from tests.test_messages import ANY_VALUES, BROKEN_BALLOTS
from tests.test_sessions import TOLD

BALLOT = (1, "x")
COMMIT, ABORT = (BALLOT, "commit"), (BALLOT, "abort")
NEED = (2, ("a", "b", "c"))
BALLOTS = [(0, "x"), (1, "x"), (1, "y")]


def is_part(small, large):
    """Whether the one sequence is a subsequence of the other."""
    rest = iter(large)
    return all(any(event == other for other in rest) for event in small)


class JustificationTestCase(RaisingTestCase):

    def check(self, network, faulty, events, node, ballot, is_valid=model.is_valid):
        """The result has all that [54] says; return it."""
        found = justification(network, faulty, events, node, ballot)
        self.assertIsInstance(found, tuple)
        self.assertTrue(is_part(found, events))
        self.assertEqual(found[-1][:3], ("accepted", node, ballot))
        self.assertTrue(is_valid(network, faulty, found))
        for at in range(len(found) - 1):
            self.assertFalse(is_valid(network, faulty, found[:at] + found[at + 1:]), found[at])
        return found

    def check_all(self, network, faulty, events):
        """Every acceptance in a history; return how many there are, and how many events explain them."""
        accepted = [event for event in events if event[0] == "accepted"]
        found = [self.check(network, faulty, events, event[1], event[2]) for event in accepted]
        return len(found), sum(len(part) for part in found)


class ResultTest(JustificationTestCase):

    def test_example(self):
        session = Session(TRIO, ["c"])
        session.vote("b", (1, "x"), "commit")
        session.vote("a", (1, "x"), "commit")
        session.receive("a", TOLD)
        events = session.all_events()
        self.assertEqual(justification(TRIO, ["c"], events, "a", (1, "x")), events[1:])

    def test_events_after_the_acceptance_and_confirmations_go(self):
        self.assertEqual(self.check(TRIO, ["c"], EVENTS, "a", BALLOT), EVENTS[:3])
        self.assertEqual(self.check(TRIO, ["c"], EVENTS, "b", BALLOT),
                         (*EVENTS[:3], EVENTS[5], EVENTS[6], EVENTS[7]))

    def test_the_vote_is_not_needed_for_blocking(self):
        session = Session(PAIR.with_node("c", (1, ("c",))), ["b"])
        session.vote("a", BALLOT, "commit")
        session.receive("a", ("b", (1, ("c",)), (), (COMMIT,)))
        events = session.all_events()
        self.assertEqual(self.check(session.network, ["b"], events, "a", BALLOT), events[1:])

    def test_what_a_message_describes_is_needed(self):
        # c learns of the vote of b on one ballot by a message that describes another vote, too.
        session = Session(TRIO)
        session.vote("b", (2, "y"), "abort")
        session.vote("b", BALLOT, "commit")
        session.vote("b", (3, "y"), "abort")
        session.vote("c", (2, "y"), "commit")
        session.vote("c", BALLOT, "commit")
        session.receive("c", session.messages_of("b")[2])
        events = session.all_events()
        self.assertEqual(self.check(TRIO, (), events, "c", BALLOT), (events[0], events[1], *events[4:]))

    def test_one_of_several_messages_is_enough(self):
        session = Session(TRIO, ["c"])
        session.vote("a", BALLOT, "commit")
        session.vote("b", BALLOT, "commit")
        session.vote("b", (2, "x"), "commit")
        for at in (0, 1, 2, 1):
            session.receive("a", session.messages_of("b")[at])
        self.assertEqual(len(self.check(TRIO, ["c"], session.all_events(), "a", BALLOT)), 4)

    def test_a_requirement_and_a_vote_in_two_messages(self):
        events = [
            ("voted", "a", BALLOT, "commit"), ("received", "a", ("c", (1, ("b",)), (COMMIT,), ())),
            ("received", "a", ("c", (1, ("b",)), (), ())), ("received", "a", ("c", (1, ("c",)), (), ())),
            ("received", "a", ("c", (1, ("a",)), (), ())), ("accepted", "a", BALLOT, "commit", ("support", ("a", "c"))),
        ]
        self.assertEqual(len(self.check(TRIO, ["c"], events, "a", BALLOT)), 4)

    def test_a_message_that_is_needed_only_because_of_another_one(self):
        # The third message mends what the second one spoils; without the second one it is not needed.
        good, bad = (1, ("c",)), (1, ("b",))
        events = [
            ("voted", "a", BALLOT, "commit"), ("received", "a", ("c", good, (COMMIT,), ())),
            ("received", "a", ("c", bad, (), ())), ("received", "a", ("c", good, (), ())),
            ("accepted", "a", BALLOT, "commit", ("support", ("a", "c"))),
        ]
        self.assertEqual(self.check(TRIO, ["c"], events, "a", BALLOT), (*events[:2], events[4]))

    def test_a_chain_of_acceptances(self):
        network = Network([("a", (1, ("b",))), ("b", (1, ("c",))), ("c", (1, ("d",))), ("d", (1, ("d",)))])
        session = Session(network, ["d"])
        session.receive("c", ("d", (1, ("d",)), (), (COMMIT,)))
        session.receive("b", session.message_of("c"))
        session.vote("a", (2, "y"), "commit")
        session.receive("c", session.message_of("a"))
        session.receive("a", session.message_of("b"))
        needed = [event for event in session.all_events()
                  if event[0] in ("received", "accepted") and event[2] != session.message_of("a")]
        needed = [event for event in needed if event[:2] != ("received", "c") or event[2][0] == "d"]
        self.assertEqual(self.check(network, ["d"], session.all_events(), "a", BALLOT), tuple(needed))


class DrawnTest(JustificationTestCase):

    def test_events_of_drawn_sessions(self):
        counts = []
        for chance, network, faulty in drawn_cases(61, range(2, 6), 15):
            session = model.drawn_session(chance, Session(network, faulty), BALLOTS, 30)
            counts.append(self.check_all(network, faulty, session.all_events()))
        self.assertGreater(sum(count for count, length in counts), 100)
        self.assertGreater(max(length for count, length in counts), 10)

    def test_drawn_histories(self):
        counts = []
        for chance, network, faulty in drawn_cases(62, range(2, 6), 25):
            events = model.drawn_history(chance, network, faulty, BALLOTS, 60)
            counts.append(self.check_all(network, faulty, events))
        self.assertGreater(sum(count for count, length in counts), 100)

    def test_many_requirements_of_faulty_nodes(self):
        chance = random.Random(63)
        longest = 0
        for _ in range(150):
            network = drawn_network(chance, 4)
            events = [("voted", "a", ballot, "commit") for ballot in BALLOTS]
            accepted = []
            for _ in range(25):
                sender = chance.choice("bcd")
                votes = model.drawn_statements(chance, BALLOTS, 0.15)
                events.append(("received", "a", (sender, drawn_requirement(chance, "abcd"), votes, ())))
                session = model.Model(network, ["b", "c", "d"])
                for event in events:
                    session.perform(event)
                for ballot in BALLOTS:
                    found = session.nodes["a"].acceptance(ballot)
                    if found is not None and chance.random() < 0.3:
                        events.append(("accepted", "a", ballot, *found))
                        accepted.append(ballot)
                        break
            for ballot in accepted:
                longest = max(longest, len(self.check(network, ["b", "c", "d"], events, "a", ballot)))
        self.assertGreater(longest, 5)


class ErrorsTest(JustificationTestCase):

    def test_invalid_histories(self):
        call = justification
        for value in (*[value for value in OTHER_VALUES if value not in ((), [])], EVENTS[1:], EVENTS[0],
                      [*EVENTS, EVENTS[0]], nested("a", 40), repr(EVENTS), [list(event) for event in EVENTS]):
            self.assert_raises(InvalidHistory, {}, call, TRIO, ["c"], value, "a", BALLOT)
            self.assert_raises(InvalidHistory, {}, call, TRIO, ["c"], value, None, None)
        for at, event in list(events_of_other_forms())[::7]:
            self.assert_raises(InvalidHistory, {}, call, TRIO, ["c"], [*EVENTS[:at], event], "a", BALLOT)

    def test_an_invalid_event_after_the_acceptance(self):
        self.assert_raises(InvalidHistory, {}, justification, TRIO, ["c"], [*EVENTS, EVENTS[0]], "a", BALLOT)

    def test_not_accepted(self):
        for node, ballot in (("a", (1, "y")), ("a", (2, "x")), ("b", (1, "y")), ("c", BALLOT), ("c", (1, "y"))):
            fields = {"name": node, "ballot": ballot}
            self.assert_raises(NotAccepted, fields, justification, TRIO, ["c"], EVENTS, node, ballot)
            self.assert_raises(NotAccepted, fields, justification, TRIO, ["c"], [], node, ballot)
        fields = {"name": "a", "ballot": BALLOT}
        self.assert_raises(NotAccepted, fields, justification, TRIO, ["c"], EVENTS[:2], "a", BALLOT)

    def test_any_value_as_ballot(self):
        for value in (*ANY_VALUES, *BROKEN_BALLOTS.values(), COMMIT, (True, "x"), [1, "x"]):
            fields = {"name": "a", "ballot": value}
            self.assert_raises(NotAccepted, fields, justification, TRIO, ["c"], EVENTS, "a", value)

    def test_any_value_as_node(self):
        for value in (*OTHER_VALUES, *NOT_NODES, nested("a", 40), ("a",), ["a"], COMMIT):
            fields = {"name": value, "ballot": BALLOT}
            self.assert_raises(NotAccepted, fields, justification, TRIO, ["c"], EVENTS, value, BALLOT)
            fields = {"name": value, "ballot": 7}
            self.assert_raises(NotAccepted, fields, justification, TRIO, ["c"], EVENTS, value, 7)

    def test_unknown_nodes_come_first(self):
        for events, node, ballot in ((EVENTS, "a", BALLOT), (None, "z", None)):
            arguments = {"network": TRIO, "events": events, "node": node, "ballot": ballot}
            self.assert_unknown(justification, arguments, {"faulty": "set"})
            self.assert_unknown_without_nodes(justification, arguments, ["faulty"])


class ArgumentsTest(JustificationTestCase):

    def test_arguments(self):
        found = justification(ballot=BALLOT, node="a", events=list(EVENTS), faulty=["c", "c"], network=TRIO)
        self.assertEqual(repr(found), repr(EVENTS[:3]))
        self.assert_unchanged(justification, TRIO, ["c", "c"], list(EVENTS), "b", BALLOT)

    def test_tuples_and_lists(self):
        for form in (tuple, list):
            self.assertEqual(self.check(TRIO, form("c"), form(EVENTS), "a", BALLOT), EVENTS[:3])


class LimitsTest(JustificationTestCase):

    def test_a_history_of_3000_events(self):
        chance = random.Random(64)
        network = Network([(name, (3, tuple("abcdef"))) for name in "abcdef"])
        ballots = [(number, value) for number in range(7) for value in ("a", "b", "c", "d", "e", "f", "g", "h")]
        session = Session(network, ["f"])
        while len(session.all_events()) < 3000:
            model.drawn_session(chance, session, ballots, 50)
        events = session.all_events()[:3000]
        last = [event for event in events if event[0] == "accepted"][-1]
        found = justification(network, ["f"], events, *last[1:3])
        self.assertGreater(len(found), 100)
        self.assertTrue(is_valid_history(network, ["f"], found))
        for at in chance.sample(range(len(found) - 1), 40):
            self.assertFalse(is_valid_history(network, ["f"], found[:at] + found[at + 1:]))


if __name__ == "__main__":
    unittest.main()
