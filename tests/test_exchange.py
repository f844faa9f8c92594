"""Promise [55], and [2], [4] and [20] as far as they bear on exchange.py."""

import itertools
import random
import unittest

from oathmoot.errors import FaultyNode, UnknownNode
from oathmoot.exchange import exchange
from oathmoot.networks import Network
from oathmoot.sessions import Session
from tests.cases import RaisingTestCase
from tests.model import Model, drawn_session
from tests.samples import APART, FOUR, PAIR, TRIO, drawn_cases, drawn_network, drawn_set

BALLOT = (1, "x")
COMMIT = (BALLOT, "commit")
NEED = (2, ("a", "b", "c"))
BALLOTS = [(0, "x"), (1, "x"), (1, "y")]


class Wrapper:
    """What works as a session, but is none: it has only what [65] lists, and `receive`."""

    def __init__(self, session):
        self.network = session.network
        self.faulty = session.faulty
        for name in ("all_events", "messages_of", "message_of", "votes_of", "accepted_by", "confirmed_by",
                     "received_by", "reason_of", "receive"):
            setattr(self, name, getattr(session, name))


def exchange_in_model(session, nodes):
    """[55] in a model that has performed the same events as the session; return the events."""
    model = Model(session.network, session.faulty)
    for event in session.all_events():
        model.perform(event)
    events = []
    names = sorted(set(nodes))
    delivered = True
    while delivered:
        delivered = False
        for receiver, sender in itertools.permutations(names, 2):
            message = model.nodes[sender].messages[-1]
            if message not in model.received_by(receiver):
                events.extend(model.receive(receiver, message))
                delivered = True
    return tuple(events)


class ExchangeTest(RaisingTestCase):

    def test_example(self):
        session = Session(PAIR)
        self.assertEqual(exchange(session, ["a", "b"]), (
            ("received", "a", ("b", (1, ("a",)), (), ())), ("received", "b", ("a", (1, ("b",)), (), ())),
        ))

    def test_passes_written_out_by_hand(self):
        session = Session(PAIR)
        for name in "ab":
            session.vote(name, BALLOT, "commit")
        need_a, need_b = (1, ("b",)), (1, ("a",))
        self.assertEqual(exchange(session, ["a", "b"]), (
            # The first pass: a hears the vote of b and accepts; b hears the vote and the acceptance of a.
            ("received", "a", ("b", need_b, (COMMIT,), ())),
            ("accepted", "a", BALLOT, "commit", ("support", ("a", "b"))),
            ("received", "b", ("a", need_a, (COMMIT,), (COMMIT,))),
            ("accepted", "b", BALLOT, "commit", ("support", ("a", "b"))),
            ("confirmed", "b", BALLOT, "commit", ("a", "b")),
            # The second pass: a hears the acceptance of b. The third one delivers nothing.
            ("received", "a", ("b", need_b, (COMMIT,), (COMMIT,))),
            ("confirmed", "a", BALLOT, "commit", ("a", "b")),
        ))
        self.assertEqual(len(session), 5)

    def test_receivers_first_then_senders(self):
        session = Session(TRIO)
        events = exchange(session, ["c", "a", "b"])
        self.assertEqual([(event[1], event[2][0]) for event in events], [
            ("a", "b"), ("a", "c"), ("b", "a"), ("b", "c"), ("c", "a"), ("c", "b"),
        ])

    def test_the_message_as_it_is_at_that_moment(self):
        # a accepts in the course of the pass, and what b and c hear of it is new already.
        session = Session(TRIO)
        session.vote("a", BALLOT, "commit")
        session.vote("c", BALLOT, "commit")
        events = exchange(session, "abc")
        heard = [event[2] for event in events if event[0] == "received" and event[2][0] == "a"]
        self.assertEqual(heard, [("a", NEED, (COMMIT,), (COMMIT,))] * 2)

    def test_only_what_is_new(self):
        session = Session(TRIO)
        session.receive("a", session.message_of("b"))
        session.receive("c", session.message_of("a"))
        events = exchange(session, "abc")
        self.assertEqual([(event[1], event[2][0]) for event in events], [
            ("a", "c"), ("b", "a"), ("b", "c"), ("c", "b"),
        ])
        self.assertEqual(exchange(session, "abc"), ())
        session.vote("b", BALLOT, "abort")
        events = exchange(session, "abc")
        self.assertEqual([(event[1], event[2][0]) for event in events], [("a", "b"), ("c", "b")])

    def test_duplicates_and_any_order(self):
        expected = None
        for nodes in (["a", "b", "c"], ("c", "b", "a"), ["b", "a", "c", "b", "b"], tuple("cabcab")):
            session = Session(FOUR, ["d"])
            for name in "abc":
                session.vote(name, BALLOT, "abort")
            events = exchange(session, nodes)
            expected = expected or events
            self.assertEqual(events, expected)
        self.assertEqual(len(expected), 15)

    def test_one_node_and_none(self):
        for nodes in ([], (), ["b"], ("b", "b")):
            session = Session(TRIO, ["c"])
            session.vote("a", BALLOT, "commit")
            self.assertEqual(repr(exchange(session, nodes)), "()")
            self.assertEqual(len(session), 1)
        self.assertEqual(exchange(Session(Network()), []), ())

    def test_other_nodes_have_no_part(self):
        session = Session(FOUR)
        for name in "abcd":
            session.vote(name, BALLOT, "commit")
        events = exchange(session, ["b", "d"])
        self.assertEqual({event[1] for event in events}, {"b", "d"})
        self.assertEqual(session.received_by("a"), ())
        self.assertEqual([message[0] for message in session.received_by("b")], ["d"])

    def test_each_delivery_is_a_step(self):
        session = Session(APART)
        session.vote("a", BALLOT, "commit")
        before = session.all_events()
        steps = len(session)
        events = exchange(session, ["a", "b"])
        self.assertEqual(len(session), steps + len([event for event in events if event[0] == "received"]))
        self.assertEqual(session.all_events(), before + events)

    def test_what_faulty_nodes_told_stays(self):
        session = Session(TRIO, ["c"])
        session.vote("a", BALLOT, "commit")
        session.receive("a", ("c", (1, ("c",)), (COMMIT,), ()))
        exchange(session, ["a", "b"])
        self.assertEqual([message[0] for message in session.received_by("a")], ["b", "c"])

    def test_drawn_sessions_by_a_direct_check(self):
        lengths = []
        for chance, network, faulty in drawn_cases(71, range(2, 7), 16):
            session = drawn_session(chance, Session(network, faulty), BALLOTS, 15)
            nodes = drawn_set(chance, [name for name in network.node_names() if name not in faulty], 0.8)
            expected = exchange_in_model(session, nodes)
            twin = session.copy()
            found = exchange(session, nodes)
            self.assertEqual(repr(found), repr(expected))
            self.assertEqual(session.all_events(), twin.all_events() + found)
            self.assertEqual(exchange(session, nodes), ())
            lengths.append(len(found))
        self.assertGreater(max(lengths), 20)

    def test_what_works_as_a_session(self):
        chance = random.Random(72)
        for _ in range(10):
            network = drawn_network(chance, 5)
            session = drawn_session(chance, Session(network, ["e"]), BALLOTS, 15)
            twin = session.copy()
            self.assertEqual(exchange(Wrapper(session), "dcba"), exchange(twin, "abcd"))
            self.assertTrue(session == twin)
        wrapper = Wrapper(Session(TRIO, ["c"]))
        self.assert_raises(FaultyNode, {"name": "c"}, exchange, wrapper, ["c"])
        self.assert_raises(UnknownNode, {"name": "z"}, exchange, wrapper, ["c", "z"])

    def test_faulty_nodes(self):
        session = Session(FOUR, ["c", "b"])
        session.vote("a", BALLOT, "commit")
        twin = session.copy()
        for nodes, name in ((["a", "d", "c"], "c"), (["a", "c", "b"], "c"), (("b", "c"), "b"), (("d", "b", "a"), "b")):
            self.assert_raises(FaultyNode, {"name": name}, exchange, session, nodes)
        self.assertTrue(session == twin)
        self.assertEqual(len(session), 1)

    def test_unknown_nodes_come_first(self):
        session = Session(FOUR, ["a"])
        twin = session.copy()
        self.assert_unknown(exchange, {"session": session}, {"nodes": "set"})
        self.assert_raises(UnknownNode, {"name": "z"}, exchange, session, ["a", "z", "y"])
        self.assertTrue(session == twin)

    def test_arguments(self):
        session = Session(PAIR)
        nodes = ["b", "a", "b"]
        found = exchange(nodes=nodes, session=session)
        self.assertIsInstance(found, tuple)
        self.assertEqual(len(found), 2)
        self.assertEqual(nodes, ["b", "a", "b"])


if __name__ == "__main__":
    unittest.main()
