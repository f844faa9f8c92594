"""Promises [52] and [53], and [2], [3] and [20] as far as they bear on histories.py."""

import itertools
import random
import unittest

from oathmoot.histories import is_complete_history, is_valid_history
from oathmoot.networks import Network
from oathmoot.sessions import Session
from tests import model
from tests.cases import RaisingTestCase
from tests.samples import FOUR, OTHER_VALUES, PAIR, TRIO, drawn_cases, drawn_set, nested
from tests.test_messages import BROKEN_BALLOTS, BROKEN_MESSAGES
from tests.test_sessions import example_session

BALLOT = (1, "x")
COMMIT, ABORT = (BALLOT, "commit"), (BALLOT, "abort")
NEED = (2, ("a", "b", "c"))
BALLOTS = [(0, "x"), (1, "x"), (1, "y")]
# A complete history in `trio` with c faulty that holds every kind of event.
EVENTS = (
    ("voted", "a", BALLOT, "commit"),
    ("received", "a", ("c", (1, ("c",)), (COMMIT,), ())),
    ("accepted", "a", BALLOT, "commit", ("support", ("a", "c"))),
    ("received", "a", ("c", (1, ("c",)), (), (COMMIT,))),
    ("confirmed", "a", BALLOT, "commit", ("a", "c")),
    ("received", "b", ("c", NEED, (), (COMMIT,))),
    ("received", "b", ("a", NEED, (COMMIT,), (COMMIT,))),
    ("accepted", "b", BALLOT, "commit", ("blocking", ("a", "c"))),
    ("confirmed", "b", BALLOT, "commit", ("a", "b", "c")),
)


def events_of_other_forms():
    """Events in which one rule of the form is broken, by their place in EVENTS."""
    for at, event in enumerate(EVENTS):
        yield at, list(event)
        yield at, event[:-1]
        yield at, (*event, event[-1])
        yield at, event[1:]
        for word in ("", "Voted", "vote", "receive", "accept", "confirm", None, True, 0, ("voted",), ["accepted"]):
            yield at, (word, *event[1:])
        for node in ("z", "", "A", None, 0, True, ("a",), ["a"]):
            yield at, (event[0], node, *event[2:])
        if event[0] == "received":
            for message in (*BROKEN_MESSAGES.values(), list(event[2]), None, "c"):
                yield at, (*event[:2], message)
            continue
        for ballot in (*BROKEN_BALLOTS.values(), [1, "x"]):
            yield at, (*event[:2], ballot, *event[3:])
        for answer in ("", "Commit", "yes", None, True, ("commit",), ["commit"]):
            yield at, (*event[:3], answer, *event[4:])
        if event[0] == "accepted":
            word, nodes = event[4]
            for reason in (list(event[4]), (word,), (word, nodes, nodes), nodes, None, word, (nodes, word)):
                yield at, (*event[:4], reason)
            for other in ("", "Support", "block", None, True, (word,), [word]):
                yield at, (*event[:4], (other, nodes))
            for wrong in sets_of_other_forms(nodes):
                yield at, (*event[:4], (word, wrong))
        if event[0] == "confirmed":
            for wrong in sets_of_other_forms(event[4]):
                yield at, (*event[:4], wrong)


def sets_of_other_forms(nodes):
    """The node set, written in other ways than node sets are returned, and values that are no node sets."""
    yield list(nodes)
    yield nodes[::-1]
    yield (*nodes, nodes[-1])
    yield (nodes[0], *nodes)
    yield (*nodes, "z")
    yield ("A", *nodes)
    yield (*nodes, None)
    yield (*nodes, 1)
    yield (*nodes, ["a"])
    yield (nodes,)
    yield "".join(nodes)
    yield ",".join(nodes)
    yield None
    yield 0


class HistoryTestCase(RaisingTestCase):

    def assert_history(self, network, faulty, events, valid, complete):
        for form in (tuple(events), list(events)):
            self.assertIs(is_valid_history(network, faulty, form), valid, events)
            self.assertIs(is_complete_history(network, faulty, form), complete, events)


class ValidityTest(HistoryTestCase):

    def test_example(self):
        self.assertIs(is_valid_history(PAIR, (), [("voted", "a", BALLOT, "abort")]), True)

    def test_no_events(self):
        for network, faulty in ((PAIR, ()), (TRIO, ["c", "a"]), (Network(), ()), (PAIR, ["b", "a"])):
            self.assert_history(network, faulty, (), True, True)

    def test_every_kind_of_event(self):
        for count in range(len(EVENTS) + 1):
            complete = count in (0, 1, 3, 5, 6, 9)
            self.assert_history(TRIO, ["c"], EVENTS[:count], True, complete)
            self.assertEqual(model.is_complete(TRIO, ["c"], EVENTS[:count]), complete)

    def test_events_of_sessions_are_complete_histories(self):
        for chance, network, faulty in drawn_cases(51, range(1, 7), 10):
            session = model.drawn_session(chance, Session(network, faulty), BALLOTS, 30)
            self.assert_history(network, faulty, session.all_events(), True, True)

    def check_drawn(self, seed, times, changes):
        """What `changes` makes of drawn histories, by a direct check; return the answers."""
        answers = []
        for chance, network, faulty in drawn_cases(seed, range(2, 6), times):
            events = model.drawn_history(chance, network, faulty, BALLOTS[:2], 50)
            for changed in changes(chance, network, events):
                valid = model.is_valid(network, faulty, changed)
                complete = model.is_complete(network, faulty, changed)
                self.assert_history(network, faulty, changed, valid, complete)
                answers.append((valid, complete))
        return answers

    def test_drawn_histories(self):
        answers = self.check_drawn(52, 30, lambda chance, network, events: [events])
        self.assertGreater(answers.count((True, True)), 10)
        self.assertGreater(answers.count((True, False)), 10)
        self.assertEqual(answers.count((False, False)), 0)

    def moved(self, chance, network, events):
        """Histories with one event left out, or moved to another place."""
        for _ in range(min(10, len(events))):
            changed = list(events)
            event = changed.pop(chance.randrange(len(changed)))
            for place in chance.choice(([], [chance.randint(0, len(changed))])):
                changed.insert(place, event)
            yield changed

    def test_drawn_histories_with_an_event_left_out_or_moved(self):
        answers = self.check_drawn(53, 30, self.moved)
        for answer in ((True, True), (True, False), (False, False)):
            self.assertGreater(answers.count(answer), 50)

    def exchanged(self, chance, network, events):
        """Histories with another event in the place of one of them."""
        for _ in range(10 if events else 0):
            at = chance.randrange(len(events))
            nodes = tuple(sorted(set(drawn_set(chance, network.node_names(), 0.6))))
            yield [*events[:at], self.changed_event(chance, network, events[at], nodes), *events[at + 1:]]

    def test_drawn_histories_with_one_other_event(self):
        answers = self.check_drawn(54, 40, self.exchanged)
        for answer in ((True, True), (True, False), (False, False)):
            self.assertGreater(answers.count(answer), 50)

    def changed_event(self, chance, network, event, nodes):
        """The event with one other entry that is of the right form."""
        place = chance.randrange(1, len(event))
        entry = event[place]
        if place == 1:
            entry = chance.choice(network.node_names())
        elif event[0] == "received":
            entry = model.drawn_message(chance, network, entry[0], BALLOTS[:2])
        elif place == 2:
            entry = chance.choice(BALLOTS[:2])
        elif place == 3:
            entry = chance.choice(model.ANSWERS)
        elif event[0] == "accepted":
            entry = (chance.choice((entry[0], "support", "blocking")), chance.choice((entry[1], nodes)))
        else:
            entry = nodes
        return (*event[:place], entry, *event[place + 1:])


class RulesTest(HistoryTestCase):
    """Each rule of [52] broken alone."""

    def assert_next(self, network, faulty, events, good, bad):
        """After the events each of the good ones may follow, and none of the bad ones."""
        for event in good:
            self.assertIs(is_valid_history(network, faulty, [*events, event]), True, event)
            self.assertTrue(model.is_valid(network, faulty, [*events, event]), event)
        for event in bad:
            self.assertIs(is_valid_history(network, faulty, [*events, event]), False, event)
            # Nothing that follows can mend it.
            longer = [*events, event, ("voted", "a", (6, "z"), "commit")]
            self.assertIs(is_valid_history(network, faulty, longer), False)
            self.assertIs(is_complete_history(network, faulty, [*events, event]), False)

    def test_voted(self):
        self.assert_next(TRIO, ["c"], EVENTS[:1], [
            ("voted", "a", (1, "y"), "commit"), ("voted", "a", (2, "x"), "abort"), ("voted", "b", BALLOT, "abort"),
        ], [
            ("voted", "a", BALLOT, "commit"), ("voted", "a", BALLOT, "abort"), ("voted", "c", BALLOT, "commit"),
        ])
        accepted = [("received", "a", ("b", (1, ("b",)), (), (COMMIT,)))]
        self.assert_next(PAIR, ["b"], accepted, [("voted", "a", BALLOT, "commit")], [])
        accepted.append(("accepted", "a", BALLOT, "commit", ("blocking", ("b",))))
        self.assert_next(PAIR, ["b"], accepted, [("voted", "a", (1, "y"), "commit")], [
            ("voted", "a", BALLOT, "commit"), ("voted", "a", BALLOT, "abort"),
        ])

    def test_received(self):
        self.assert_next(TRIO, ["c"], EVENTS[:3], [
            ("received", "b", ("a", NEED, (), ())), ("received", "b", ("a", NEED, (COMMIT,), ())),
            ("received", "b", ("a", NEED, (COMMIT,), (COMMIT,))), ("received", "a", ("b", NEED, (), ())),
            ("received", "a", ("c", (1, ("b",)), (ABORT, COMMIT), (ABORT, COMMIT))), EVENTS[1],
        ], [
            ("received", "c", ("a", NEED, (), ())), ("received", "c", ("b", NEED, (), ())),
            ("received", "a", ("a", NEED, (), ())), ("received", "a", ("a", NEED, (COMMIT,), ())),
            ("received", "b", ("a", NEED, (), (COMMIT,))), ("received", "b", ("a", NEED, (ABORT,), ())),
            ("received", "b", ("a", (1, ("a",)), (COMMIT,), ())), ("received", "a", ("b", NEED, (COMMIT,), ())),
        ])
        self.assert_next(TRIO, ["c"], (), [("received", "b", ("a", NEED, (), ()))], [
            ("received", "b", ("a", NEED, (COMMIT,), ())),
        ])

    def test_a_faulty_node_does_not_receive_even_its_own_message(self):
        self.assert_next(TRIO, ["c"], (), [], [("received", "c", ("c", NEED, (), ()))])

    def test_messages_between_two_acceptances(self):
        statements = tuple(((1, value), "commit") for value in "xyz")
        start = [("received", "a", ("b", (1, ("b",)), (), statements))]
        accepted = [("accepted", "a", *statement, ("blocking", ("b",))) for statement in statements]
        network = PAIR.with_node("c", (1, ("c",)))
        for order in itertools.permutations(range(3)):
            events = start + [accepted[at] for at in order]
            told = [statements[at] for at in order]
            good = [("received", "c", ("a", (1, ("b",)), (), tuple(sorted(told[:count])))) for count in range(4)]
            bad = [("received", "c", ("a", (1, ("b",)), (), tuple(sorted(told[1:]))))]
            self.assert_next(network, ["b"], events, good, bad)

    def test_accepted_with_support(self):
        start = [("voted", name, BALLOT, "commit") for name in "abcd"]
        need = FOUR.requirement_of("a")
        start += [("received", "a", (name, need, (COMMIT,), ())) for name in "bcd"]
        everyone = ("a", "b", "c", "d")
        good = [("accepted", "a", BALLOT, "commit", ("support", nodes))
                for nodes in (everyone, ("a", "b", "c"), ("a", "b", "d"), ("a", "c", "d"))]
        bad = [("accepted", "a", BALLOT, "commit", ("support", nodes))
               for nodes in ((), ("a",), ("a", "b"), ("b", "c", "d"), ("b", "c"))]
        bad += [("accepted", "a", BALLOT, "abort", ("support", everyone)),
                ("accepted", "a", (2, "x"), "commit", ("support", everyone)),
                ("accepted", "b", BALLOT, "commit", ("support", everyone)),
                ("accepted", "a", BALLOT, "commit", ("blocking", everyone)),
                ("accepted", "a", BALLOT, "commit", ("blocking", ("b", "c", "d"))),
                ("accepted", "a", BALLOT, "commit", ("blocking", ()))]
        self.assert_next(FOUR, (), start, good, bad)
        for event in good:
            self.assert_next(FOUR, (), [*start, event], [], good)

    def test_support_needs_a_message_of_each_other_node(self):
        network = Network([(name, (1, ("a", "b"))) for name in "abc"])
        start = [("voted", "a", BALLOT, "commit"), ("voted", "b", BALLOT, "commit")]
        self.assert_next(network, (), start, [("accepted", "a", BALLOT, "commit", ("support", ("a",)))], [
            ("accepted", "a", BALLOT, "commit", ("support", ("a", "b"))),
        ])

    def test_support_with_the_requirement_received_last(self):
        start = [("voted", "a", BALLOT, "commit"), ("received", "a", ("c", (1, ("b",)), (COMMIT,), ()))]
        event = ("accepted", "a", BALLOT, "commit", ("support", ("a", "c")))
        self.assert_next(TRIO, ["c"], start, [], [event])
        start.append(("received", "a", ("c", (1, ("a",)), (), ())))
        self.assert_next(TRIO, ["c"], start, [event], [])
        start.append(("received", "a", ("c", (1, ("b",)), (), ())))
        self.assert_next(TRIO, ["c"], start, [], [event])

    def test_accepted_with_blocking(self):
        network = FOUR.with_node("a", (2, ("b", (1, ("c", "d")))))
        need = FOUR.requirement_of("b")
        start = [("received", "a", (name, need, (), (COMMIT,))) for name in "bcd"]
        good = [("accepted", "a", BALLOT, "commit", ("blocking", nodes))
                for nodes in (("b",), ("b", "c"), ("b", "d"), ("c", "d"), ("b", "c", "d"))]
        bad = [("accepted", "a", BALLOT, "commit", ("blocking", nodes))
               for nodes in ((), ("c",), ("d",), ("a", "b"), ("a", "b", "c", "d"))]
        bad.append(("accepted", "a", BALLOT, "commit", ("support", ("b", "c", "d"))))
        bad.append(("accepted", "a", BALLOT, "abort", ("blocking", ("b", "c", "d"))))
        bad.append(("accepted", "b", BALLOT, "commit", ("blocking", ("b", "c", "d"))))
        self.assert_next(network, ["b", "c", "d"], start, good, bad)
        self.assert_next(network, ["b", "c", "d"], start[:2], good[:2], [good[2], good[3], good[4]])
        votes = [("received", "a", (name, need, (COMMIT,), ())) for name in "bcd"]
        self.assert_next(network, ["b", "c", "d"], votes, [], good)

    def test_either_answer_where_both_can_be_accepted(self):
        start = [("received", "a", ("b", (1, ("b",)), (), (ABORT, COMMIT)))]
        events = [("accepted", "a", BALLOT, answer, ("blocking", ("b",))) for answer in ("commit", "abort")]
        self.assert_next(PAIR, ["b"], start, events, [])
        for event in events:
            self.assert_next(PAIR, ["b"], [*start, event], [], events)

    def test_blocking_although_some_set_supports(self):
        start = [("voted", "a", BALLOT, "commit"), ("received", "a", ("b", (1, ("a",)), (), (COMMIT,)))]
        self.assert_next(PAIR, ["b"], start, [
            ("accepted", "a", BALLOT, "commit", ("blocking", ("b",))),
            ("accepted", "a", BALLOT, "commit", ("support", ("a", "b"))),
        ], [])

    def test_confirmed(self):
        start = [("voted", "a", BALLOT, "commit")]
        need = FOUR.requirement_of("a")
        start += [("received", "a", (name, need, (), (COMMIT,))) for name in "bcd"]
        everyone = ("a", "b", "c", "d")
        sets = (everyone, ("a", "b", "c"), ("a", "b", "d"), ("a", "c", "d"))
        good = [("confirmed", "a", BALLOT, "commit", nodes) for nodes in sets]
        self.assert_next(FOUR, ["b", "c", "d"], start, [], good)
        start.append(("accepted", "a", BALLOT, "commit", ("support", everyone)))
        bad = [("confirmed", "a", BALLOT, "commit", nodes)
               for nodes in ((), ("a",), ("a", "b"), ("b", "c", "d"))]
        bad += [("confirmed", "a", BALLOT, "abort", everyone), ("confirmed", "b", BALLOT, "commit", everyone),
                ("confirmed", "a", (2, "x"), "commit", everyone)]
        self.assert_next(FOUR, ["b", "c", "d"], start, good, bad)
        for event in good:
            self.assert_next(FOUR, ["b", "c", "d"], [*start, event], [], good)

    def test_votes_do_not_ratify(self):
        start = [*EVENTS[:3]]
        self.assert_next(TRIO, ["c"], start, [], [EVENTS[4]])

    def test_faulty_nodes_do_nothing(self):
        for faulty in (["a"], ["a", "c"], ["a", "b", "c"]):
            self.assert_history(TRIO, faulty, EVENTS[:1], False, False)

    def test_at_any_place(self):
        wrong = [("voted", "a", BALLOT, "abort"), ("voted", "c", (6, "z"), "commit"),
                 ("received", "a", ("a", NEED, (), ())), ("received", "b", ("a", NEED, (ABORT,), ())),
                 ("accepted", "b", (2, "x"), "commit", ("support", ("b",))),
                 ("confirmed", "a", (2, "x"), "commit", ("a", "c"))]
        for at in range(len(EVENTS) + 1):
            for event in wrong:
                events = [*EVENTS[:at], event, *EVENTS[at:]]
                self.assert_history(TRIO, ["c"], events, False, False)


class FormTest(HistoryTestCase):

    def test_events_of_other_forms(self):
        self.assert_history(TRIO, ["c"], EVENTS, True, True)
        for at, event in events_of_other_forms():
            self.assert_history(TRIO, ["c"], [*EVENTS[:at], event], False, False)
            self.assert_history(TRIO, ["c"], [*EVENTS[:at], event, *EVENTS[at + 1:]], False, False)

    def test_sets_in_another_order(self):
        for nodes in itertools.permutations(("a", "b", "c")):
            events = [*EVENTS[:8], ("confirmed", "b", BALLOT, "commit", nodes)]
            good = nodes == ("a", "b", "c")
            self.assert_history(TRIO, ["c"], events, good, good)

    def test_values_of_every_other_kind(self):
        for value in (*OTHER_VALUES, "voted", EVENTS[0], nested("a", 40), nested([], 40),
                      (EVENTS,), [list(EVENTS)], repr(EVENTS), (None,), [[]], [()], ("voted",)):
            good = value in ((), [])
            self.assertIs(is_valid_history(TRIO, ["c"], value), good, value)
            self.assertIs(is_complete_history(TRIO, ["c"], value), good, value)

    def test_any_value_as_an_event(self):
        for value in (*OTHER_VALUES, nested("a", 39), ("voted", "a", BALLOT), ("voted", "a", BALLOT, "commit", ())):
            self.assert_history(TRIO, ["c"], [value], False, False)
            self.assert_history(TRIO, ["c"], [*EVENTS, value], False, False)


class CompletenessTest(HistoryTestCase):

    def test_an_event_that_is_missing_at_the_end(self):
        session = example_session()
        events = session.all_events()
        self.assert_history(TRIO, ["c"], events, True, True)
        self.assert_history(TRIO, ["c"], events[:-1], True, False)

    def test_an_event_that_comes_late(self):
        # a can accept after the second event, but does so only after b has voted.
        late = [EVENTS[0], EVENTS[1], ("voted", "b", BALLOT, "abort"), EVENTS[2]]
        self.assert_history(TRIO, ["c"], late[:3], True, False)
        self.assert_history(TRIO, ["c"], late, True, True)

    def test_an_event_that_can_no_longer_happen(self):
        # With another requirement of c the chance to accept is gone, so nothing is missing any more.
        events = [EVENTS[0], EVENTS[1], ("received", "a", ("c", (1, ("b",)), (), ()))]
        self.assert_history(TRIO, ["c"], events, True, True)

    def test_the_other_answer(self):
        start = ("received", "a", ("b", (1, ("b",)), (), (ABORT, COMMIT)))
        event = ("accepted", "a", BALLOT, "abort", ("blocking", ("b",)))
        self.assert_history(PAIR, ["b"], [start], True, False)
        self.assert_history(PAIR, ["b"], [start, event], True, False)
        self.assert_history(PAIR, ["b"], [start, event, ("confirmed", "a", BALLOT, "abort", ("a", "b"))], True, True)

    def test_another_node(self):
        statement = (BALLOT, "commit")
        events = [("received", name, ("c", (1, ("c",)), (), (statement,))) for name in "ab"]
        network = Network([(name, (1, ("c",))) for name in "abc"])
        for name in "ab":
            events.append(("accepted", name, BALLOT, "commit", ("blocking", ("c",))))
            self.assert_history(network, ["c"], events, True, False)
        for name in "ba":
            self.assert_history(network, ["c"], events, True, False)
            events.append(("confirmed", name, BALLOT, "commit", (name, "c")))
        self.assert_history(network, ["c"], events, True, True)

    def test_steps_play_no_part(self):
        # Events of two nodes may be mixed as they could not be in a session.
        events = [
            ("voted", "a", BALLOT, "commit"), ("voted", "b", BALLOT, "commit"),
            ("received", "a", ("b", NEED, (COMMIT,), ())), ("received", "b", ("a", NEED, (COMMIT,), ())),
            ("accepted", "a", BALLOT, "commit", ("support", ("a", "b"))),
            ("accepted", "b", BALLOT, "commit", ("support", ("a", "b"))),
            ("received", "a", ("b", NEED, (COMMIT,), (COMMIT,))), ("received", "b", ("a", NEED, (COMMIT,), (COMMIT,))),
            ("confirmed", "b", BALLOT, "commit", ("a", "b")), ("confirmed", "a", BALLOT, "commit", ("a", "b")),
        ]
        for count in range(len(events) + 1):
            self.assert_history(TRIO, (), events[:count], True, count in (0, 1, 2, 6, 10))


class ArgumentsTest(HistoryTestCase):

    def test_arguments(self):
        for call in (is_valid_history, is_complete_history):
            self.assertIs(call(events=EVENTS, faulty=["c", "c"], network=TRIO), True)
            self.assertIs(self.assert_unchanged(call, TRIO, ["c", "c"], list(EVENTS)), True)
            self.assertIs(self.assert_unchanged(call, TRIO, ["c"], [list(event) for event in EVENTS]), False)

    def test_unknown_nodes(self):
        for call in (is_valid_history, is_complete_history):
            for events in (EVENTS, None, [("voted", "z", BALLOT, "commit")]):
                self.assert_unknown(call, {"network": TRIO, "events": events}, {"faulty": "set"})
                self.assert_unknown_without_nodes(call, {"events": events}, ["faulty"])

    def test_unknown_names_in_events_raise_nothing(self):
        for call in (is_valid_history, is_complete_history):
            self.assertIs(call(TRIO, (), [("voted", "z", BALLOT, "commit")]), False)

    def test_two_networks_in_turn(self):
        for _ in range(2):
            self.assertIs(is_valid_history(TRIO, ["c"], EVENTS), True)
            self.assertIs(is_valid_history(FOUR, ["c"], EVENTS), False)


class LimitsTest(HistoryTestCase):

    def test_a_history_of_3000_events(self):
        chance = random.Random(55)
        network = Network([(name, (4, tuple("abcdef"))) for name in "abcdef"])
        ballots = [(number, value) for number in range(7) for value in ("a", "b", "c", "d", "e", "f", "g", "h")]
        session = Session(network, ["f"])
        while len(session.all_events()) < 3000:
            model.drawn_session(chance, session, ballots, 100)
        events = session.all_events()
        self.assert_history(network, ["f"], events, True, True)
        self.assertIs(is_valid_history(network, ["f"], events[:2999]), True)
        self.assertIs(is_valid_history(network, ["f"], events[1:]), model.is_valid(network, ["f"], events[1:]))

    def test_long_messages(self):
        network = Network([(name, (2, ("a", "b"))) for name in "ab"])
        ballots = [(number, value + end) for number in range(7) for value in "abcdefgh" for end in "abcdefgh"]
        events = [("voted", "a", ballot, "commit") for ballot in ballots]
        votes = tuple((ballot, "commit") for ballot in ballots)
        for count in range(0, len(votes) + 1, 4):
            events.append(("received", "b", ("a", (2, ("a", "b")), votes[:count], ())))
        self.assert_history(network, (), events, True, True)


if __name__ == "__main__":
    unittest.main()
