"""Promises [46] to [51], and [2], [3], [4] and [20] as far as they bear on sessions.py."""

import copy
import itertools
import random
import unittest

from oathmoot.errors import (
    AlreadyAccepted, AlreadyVoted, FaultyNode, InvalidAnswer, InvalidBallot, InvalidMessage, MootError, NotAccepted,
    NotSent, OwnMessage, UnknownNode,
)
from oathmoot.networks import Network
from oathmoot.sessions import Session
from tests.cases import NOT_NODES, RaisingTestCase
from tests.model import Model, drawn_session, drawn_step
from tests.samples import APART, FOUR, OTHER_VALUES, PAIR, TRIO, drawn_cases, drawn_network
from tests.test_messages import ANY_VALUES, BROKEN_BALLOTS, BROKEN_MESSAGES

BALLOT = (1, "x")
COMMIT, ABORT = (BALLOT, "commit"), (BALLOT, "abort")
NEED = (2, ("a", "b", "c"))
# The message m of the example in [48].
TOLD = ("c", (1, ("c",)), (COMMIT,), ())
BLOCKING = ("c", NEED, (), (COMMIT,))
BALLOTS = [(0, "x"), (1, "x"), (1, "y")]


def example_session():
    """The session of the examples in [47] and [48], after both steps."""
    session = Session(TRIO, ["c"])
    session.vote("a", BALLOT, "commit")
    session.receive("a", TOLD)
    return session


def state_of(session):
    """All that a session returns."""
    honest = [name for name in session.network.node_names() if name not in session.faulty]
    queries = [(name, session.messages_of(name), session.message_of(name), session.votes_of(name),
                session.accepted_by(name), session.confirmed_by(name), session.received_by(name)) for name in honest]
    return repr((session.network.as_rows(), session.faulty, len(session), session.all_events(), queries))


class SessionTestCase(RaisingTestCase):

    def assert_refused(self, session, error, fields, call, *arguments, **named):
        """The call raises this exception, and the session stays as it is."""
        before = state_of(session)
        twin = session.copy()
        self.assert_raises(error, fields, call, *arguments, **named)
        self.assertEqual(state_of(session), before)
        self.assertTrue(session == twin)


class CreationTest(SessionTestCase):

    def test_fields(self):
        session = Session(FOUR, ["c", "a", "c"])
        self.assertIs(type(session.network), Network)
        self.assertTrue(session.network == FOUR)
        self.assertEqual(repr(session.faulty), "('a', 'c')")
        self.assertEqual(Session(FOUR).faulty, ())

    def test_a_new_session(self):
        for session in (Session(TRIO), Session(TRIO, ()), Session(TRIO, []), Session(faulty=(), network=TRIO)):
            self.assertEqual(len(session), 0)
            self.assertEqual(repr(session.all_events()), "()")
            for name in "abc":
                self.assertEqual(session.messages_of(name), ((name, NEED, (), ()),))
                for query in (session.votes_of, session.accepted_by, session.confirmed_by, session.received_by):
                    self.assertEqual(repr(query(name)), "()")

    def test_no_nodes_and_all_nodes_faulty(self):
        self.assertEqual(Session(Network()).all_events(), ())
        self.assertEqual(Session(PAIR, ["b", "a"]).faulty, ("a", "b"))

    def test_the_passed_list(self):
        faulty = ["c", "c"]
        session = Session(TRIO, faulty)
        self.assertEqual(faulty, ["c", "c"])
        faulty[0] = "a"
        faulty.append("b")
        self.assertEqual(session.faulty, ("c",))
        session.vote("a", BALLOT, "commit")
        session.receive("b", TOLD)

    def test_unknown_nodes(self):
        self.assert_unknown(Session, {"network": FOUR}, {"faulty": "set"})
        self.assert_unknown_without_nodes(Session, {}, ["faulty"])

    def test_length_and_events(self):
        session = Session(TRIO, ["c"])
        one = session.vote("a", BALLOT, "commit")
        self.assertEqual((len(session), session.all_events()), (1, one))
        other = session.receive("a", TOLD)
        self.assertEqual((len(session), session.all_events()), (2, one + other))
        self.assertEqual(len(other), 2)


class CopyAndEqualityTest(SessionTestCase):

    def test_a_copy_and_its_original_do_not_affect_each_other(self):
        for chance, network, faulty in drawn_cases(31, range(2, 7), 8):
            session = drawn_session(chance, Session(network, faulty), BALLOTS, 15)
            twin = session.copy()
            self.assertIs(type(twin), Session)
            self.assertTrue(twin == session)
            before = state_of(session)
            self.assertEqual(state_of(twin), before)
            drawn_session(chance, twin, BALLOTS, 15)
            self.assertEqual(state_of(session), before)
            changed = state_of(twin)
            self.assertEqual(twin == session, changed == before)
            drawn_session(chance, session, BALLOTS, 15)
            self.assertEqual(state_of(twin), changed)

    def test_a_copy_goes_on_as_its_original(self):
        for chance, network, faulty in drawn_cases(32, range(2, 7), 8):
            session = drawn_session(chance, Session(network, faulty), BALLOTS, 15)
            twin = session.copy()
            for _ in range(15):
                step = drawn_step(chance, session, BALLOTS)
                if step is not None:
                    self.assertEqual(getattr(session, step[0])(*step[1]), getattr(twin, step[0])(*step[1]))
            self.assertTrue(session == twin)
            self.assertEqual(state_of(session), state_of(twin))

    def test_equal_sessions(self):
        self.assertTrue(example_session() == example_session())
        self.assertFalse(example_session() != example_session())
        self.assertTrue(Session(PAIR) == Session(Network(PAIR.as_rows()[::-1]), []))
        self.assertTrue(Session(TRIO, ["c", "b", "c"]) == Session(TRIO, ("b", "c")))

    def test_other_sessions(self):
        longer = example_session()
        longer.receive("b", TOLD)
        exchanged = Session(TRIO, ["c"])
        exchanged.receive("a", TOLD)
        exchanged.vote("a", BALLOT, "commit")
        other = Session(TRIO, ["c"])
        other.vote("a", BALLOT, "abort")
        sessions = [example_session(), longer, exchanged, other, Session(TRIO, ["c"]), Session(TRIO, ["b"]),
                    Session(TRIO), Session(FOUR), Session(Network()), Session(PAIR), Session(APART)]
        for one, two in itertools.permutations(sessions, 2):
            self.assertFalse(one == two)
            self.assertTrue(one != two)

    def test_values_that_are_not_sessions(self):
        for session in (Session(Network()), example_session()):
            for value in (*OTHER_VALUES, session.all_events(), session.network, len(session), object(), Model(TRIO)):
                self.assertFalse(session == value)
                self.assertFalse(value == session)
                self.assertTrue(session != value)

    def test_an_object_that_claims_equality_decides_nothing(self):
        class Agreeable:
            def __eq__(self, other):
                return True

        self.assertFalse(Session(TRIO) == Agreeable())


class VoteTest(SessionTestCase):

    def test_example(self):
        self.assertEqual(Session(TRIO, ["c"]).vote("a", BALLOT, "commit"), (("voted", "a", BALLOT, "commit"),))

    def test_votes(self):
        session = Session(TRIO, ["c"])
        for node, ballot, answer in (("a", (0, "x"), "commit"), ("a", (6, "abcdefgh"), "abort"),
                                     ("b", (0, "x"), "abort"), ("a", (1, "x"), "abort"), ("a", (1, "y"), "commit")):
            found = session.vote(node, ballot, answer)
            self.assertEqual(repr(found), repr((("voted", node, ballot, answer),)))
        self.assertEqual(session.votes_of("b"), (((0, "x"), "abort"),))
        self.assertEqual(len(session), 5)

    def test_a_vote_that_convinces_at_once(self):
        session = Session(APART)
        self.assertEqual(session.vote("a", BALLOT, "abort"), (
            ("voted", "a", BALLOT, "abort"), ("accepted", "a", BALLOT, "abort", ("support", ("a",))),
            ("confirmed", "a", BALLOT, "abort", ("a",)),
        ))
        self.assertEqual(len(session), 1)

    def test_unknown_nodes(self):
        for ballot, answer in ((BALLOT, "commit"), (7, 7)):
            self.assert_unknown(Session(TRIO, ["b"]).vote, {"ballot": ballot, "answer": answer}, {"node": "name"})

    def test_faulty_nodes(self):
        session = example_session()
        for ballot, answer in ((BALLOT, "commit"), (7, 7)):
            self.assert_refused(session, FaultyNode, {"name": "c"}, session.vote, "c", ballot, answer)

    def test_invalid_ballots(self):
        session = example_session()
        for value in (*ANY_VALUES, *BROKEN_BALLOTS.values(), COMMIT):
            for answer in ("commit", "no"):
                self.assert_refused(session, InvalidBallot, {"value": value}, session.vote, "a", value, answer)

    def test_invalid_answers(self):
        session = example_session()
        for value in (*OTHER_VALUES, "Commit", "commit ", "aborted", ("commit",), ["abort"], COMMIT):
            for ballot in (BALLOT, (2, "x")):
                self.assert_refused(session, InvalidAnswer, {"value": value}, session.vote, "a", ballot, value)

    def test_already_voted(self):
        session = Session(FOUR)
        session.vote("a", BALLOT, "commit")
        for answer in ("commit", "abort"):
            fields = {"name": "a", "ballot": BALLOT}
            self.assert_refused(session, AlreadyVoted, fields, session.vote, "a", BALLOT, answer)
        session.vote("a", (1, "y"), "commit")
        session.vote("a", (2, "x"), "commit")
        session.vote("b", BALLOT, "abort")

    def test_already_voted_comes_before_already_accepted(self):
        session = example_session()
        self.assertEqual(session.accepted_by("a"), (COMMIT,))
        self.assert_refused(
            session, AlreadyVoted, {"name": "a", "ballot": BALLOT}, session.vote, "a", BALLOT, "commit"
        )

    def test_already_accepted(self):
        session = Session(PAIR, ["b"])
        session.receive("a", ("b", (1, ("b",)), (), (COMMIT,)))
        self.assertEqual((session.votes_of("a"), session.accepted_by("a")), ((), (COMMIT,)))
        for answer in ("commit", "abort"):
            fields = {"name": "a", "ballot": BALLOT}
            self.assert_refused(session, AlreadyAccepted, fields, session.vote, "a", BALLOT, answer)
        session.vote("a", (1, "y"), "commit")

    def test_a_list_in_the_fields(self):
        session = Session(TRIO)
        with self.assertRaises(InvalidBallot) as caught:
            session.vote("a", [1, "x"], "commit")
        self.assertEqual(caught.exception.value, [1, "x"])

    def test_arguments(self):
        found = Session(TRIO).vote(answer="abort", ballot=BALLOT, node="b")
        self.assertEqual(found, (("voted", "b", BALLOT, "abort"),))


class ReceiveTest(SessionTestCase):

    def test_example(self):
        session = Session(TRIO, ["c"])
        session.vote("a", BALLOT, "commit")
        self.assertEqual(session.receive("a", TOLD), (
            ("received", "a", TOLD), ("accepted", "a", BALLOT, "commit", ("support", ("a", "c"))),
        ))

    def test_unknown_nodes(self):
        for message in (TOLD, 7, ("z", NEED, (), ())):
            self.assert_unknown(Session(TRIO, ["b"]).receive, {"message": message}, {"node": "name"})

    def test_faulty_receivers(self):
        session = example_session()
        for message in (TOLD, session.message_of("a"), None, ("b", NEED, (ABORT,), ())):
            self.assert_refused(session, FaultyNode, {"name": "c"}, session.receive, "c", message)

    def test_invalid_messages(self):
        session = example_session()
        for value in (*ANY_VALUES, *BROKEN_MESSAGES.values(), BALLOT, COMMIT, list(TOLD)):
            self.assert_refused(session, InvalidMessage, {"value": value}, session.receive, "a", value)
        for name in NOT_NODES:
            value = (name, NEED, (), ())
            self.assert_refused(session, InvalidMessage, {"value": value}, session.receive, "a", value)

    def test_own_messages(self):
        session = example_session()
        for message in (session.message_of("a"), ("a", (1, ("a",)), (ABORT,), ())):
            self.assert_refused(session, OwnMessage, {"name": "a"}, session.receive, "a", message)

    def test_messages_that_were_not_sent(self):
        session = example_session()
        session.vote("b", (2, "x"), "abort")
        late = ((2, "x"), "abort")
        for message in (
            ("b", NEED, (COMMIT,), ()), ("b", NEED, (), (late,)), ("b", NEED, (late,), (late,)),
            ("b", (2, ("b", "a", "c")), (late,), ()), ("b", (1, ("b",)), (), ()), ("b", NEED, (COMMIT, late), ()),
            ("b", NEED, (((2, "x"), "commit"),), ()),
        ):
            self.assert_refused(session, NotSent, {"name": "b"}, session.receive, "a", message)
        session.receive("a", ("b", NEED, (), ()))
        session.receive("a", ("b", NEED, (late,), ()))

    def test_every_earlier_message_and_no_other(self):
        session = Session(FOUR)
        votes = []
        for number in (3, 0, 5, 1):
            statement = ((number, "x"), "commit")
            session.vote("a", *statement)
            votes.append(statement)
        for size in range(5):
            for chosen in itertools.combinations(votes, size):
                message = ("a", FOUR.requirement_of("a"), tuple(sorted(chosen)), ())
                if list(chosen) == votes[:size]:
                    session.copy().receive("b", message)
                else:
                    self.assert_refused(session, NotSent, {"name": "a"}, session.receive, "b", message)

    def test_a_message_is_not_sent_before_it_is_possible(self):
        session = Session(TRIO)
        message = ("b", NEED, (COMMIT,), ())
        self.assert_refused(session, NotSent, {"name": "b"}, session.receive, "a", message)
        session.vote("b", BALLOT, "commit")
        self.assertEqual(session.receive("a", message), (("received", "a", message),))

    def test_votes_and_accepts_are_told_apart(self):
        session = example_session()
        for message in (("a", NEED, (), (COMMIT,)), ("a", NEED, (ABORT,), (COMMIT,))):
            self.assert_refused(session, NotSent, {"name": "a"}, session.receive, "b", message)
        for message in (("a", NEED, (COMMIT,), (COMMIT,)), ("a", NEED, (COMMIT,), ()), ("a", NEED, (), ())):
            session.receive("b", message)

    def test_a_faulty_node_sends_any_message(self):
        session = Session(TRIO, ["c"])
        for message in (TOLD, BLOCKING, ("c", (3, ("c", "b", (1, ("a",)))), (ABORT, COMMIT), (ABORT, COMMIT))):
            for node in ("a", "b"):
                self.assertEqual(session.receive(node, message)[0], ("received", node, message))

    def test_a_message_again(self):
        session = example_session()
        self.assertEqual(session.receive("a", TOLD), (("received", "a", TOLD),))
        first = session.messages_of("b")[0]
        for _ in range(3):
            self.assertEqual(session.receive("a", first), (("received", "a", first),))
        self.assertEqual(len(session), 6)

    def test_arguments(self):
        session = Session(TRIO, ["c"])
        self.assertEqual(session.receive(message=TOLD, node="b"), (("received", "b", TOLD),))
        value = ["c", [1, ["c"]], [COMMIT], []]
        kept = copy.deepcopy(value)
        with self.assertRaises(InvalidMessage):
            session.receive("a", value)
        self.assertEqual(value, kept)


class MessagesOfTest(SessionTestCase):

    def test_example(self):
        self.assertEqual(Session(PAIR).messages_of("a"), (("a", (1, ("b",)), (), ()),))

    def test_each_vote_and_each_acceptance_adds_a_message(self):
        session = example_session()
        self.assertEqual(session.messages_of("a"), (
            ("a", NEED, (), ()), ("a", NEED, (COMMIT,), ()), ("a", NEED, (COMMIT,), (COMMIT,)),
        ))
        self.assertEqual(session.messages_of("b"), (("b", NEED, (), ()),))
        self.assertEqual(session.message_of("a"), ("a", NEED, (COMMIT,), (COMMIT,)))

    def test_two_acceptances_in_one_step_add_two_messages(self):
        session = Session(PAIR, ["b"])
        first, second = ((0, "z"), "abort"), ((3, "a"), "commit")
        session.receive("a", ("b", (1, ("b",)), (), (first, second)))
        need = (1, ("b",))
        self.assertEqual(session.messages_of("a"), (
            ("a", need, (), ()), ("a", need, (), (first,)), ("a", need, (), (first, second)),
        ))

    def test_confirmations_add_none(self):
        session = Session(APART)
        session.vote("a", BALLOT, "commit")
        self.assertEqual(session.confirmed_by("a"), (COMMIT,))
        self.assertEqual(len(session.messages_of("a")), 3)

    def test_statements_in_ascending_order(self):
        session = Session(TRIO)
        for ballot in ((3, "a"), (1, "b"), (1, "aa"), (0, "z")):
            session.vote("a", ballot, "abort")
        self.assertEqual(session.messages_of("a")[2:], (
            ("a", NEED, (((1, "b"), "abort"), ((3, "a"), "abort")), ()),
            ("a", NEED, (((1, "aa"), "abort"), ((1, "b"), "abort"), ((3, "a"), "abort")), ()),
            ("a", NEED, (((0, "z"), "abort"), ((1, "aa"), "abort"), ((1, "b"), "abort"), ((3, "a"), "abort")), ()),
        ))

    def test_the_requirement_in_the_network(self):
        network = Network([("a", (2, ((1, ("b", "a")), "a"))), ("b", (1, ("b",)))])
        self.assertEqual(Session(network).message_of("a")[1], (2, ((1, ("b", "a")), "a")))

    def test_message_of_is_the_last_one(self):
        chance = random.Random(33)
        for _ in range(30):
            network = drawn_network(chance, 4)
            session = drawn_session(chance, Session(network, ["d"]), BALLOTS, 20)
            for name in "abc":
                found = session.messages_of(name)
                self.assertEqual(repr(session.message_of(name)), repr(found[-1]))
                self.assertIsInstance(found, tuple)
                told = [event for event in session.all_events()
                        if event[1] == name and event[0] in ("voted", "accepted")]
                self.assertEqual(len(found), len(told) + 1)
                self.assertEqual([len(message[2]) + len(message[3]) for message in found], list(range(len(found))))


class QueriesTest(SessionTestCase):

    def test_example(self):
        self.assertEqual(example_session().received_by("a"), (TOLD,))

    def test_votes_accepted_and_confirmed_in_ascending_order(self):
        session = Session(APART, ["b"])
        for ballot, answer in (((3, "a"), "abort"), ((1, "b"), "commit"), ((1, "aa"), "abort"), ((0, "z"), "commit")):
            session.vote("a", ballot, answer)
        expected = (((0, "z"), "commit"), ((1, "aa"), "abort"), ((1, "b"), "commit"), ((3, "a"), "abort"))
        for found in (session.votes_of("a"), session.accepted_by("a"), session.confirmed_by("a")):
            self.assertEqual(repr(found), repr(expected))

    def test_votes_accepted_and_confirmed_differ(self):
        session = Session(FOUR, ["d"])
        need = FOUR.requirement_of("d")
        session.vote("a", (2, "x"), "commit")
        session.vote("a", (1, "x"), "commit")
        statement = ((1, "x"), "commit")
        session.vote("b", *statement)
        session.receive("a", session.message_of("b"))
        session.receive("a", ("d", need, (statement,), ()))
        self.assertEqual(session.votes_of("a"), (statement, ((2, "x"), "commit")))
        self.assertEqual(session.accepted_by("a"), (statement,))
        self.assertEqual(session.confirmed_by("a"), ())

    def test_all_votes_and_accepts_of_several_messages(self):
        session = Session(TRIO, ["c"])
        one, two, three = ((0, "x"), "abort"), ((1, "x"), "commit"), ((1, "x"), "abort")
        session.receive("a", ("c", (1, ("c",)), (two,), ()))
        session.receive("a", ("c", (1, ("a",)), (one,), (three,)))
        session.receive("a", ("c", (2, ("b", "c")), (two,), (one,)))
        self.assertEqual(session.received_by("a"), (("c", (2, ("b", "c")), (one, two), (one, three)),))
        session.receive("a", ("c", (1, ("b",)), (), ()))
        self.assertEqual(session.received_by("a"), (("c", (1, ("b",)), (one, two), (one, three)),))
        self.assertEqual(session.received_by("b"), ())

    def test_senders_in_ascending_order(self):
        session = Session(FOUR, ["d", "a"])
        for sender in "dca":
            message = (sender, FOUR.requirement_of(sender), (), ())
            session.receive("b", message)
        self.assertEqual([message[0] for message in session.received_by("b")], ["a", "c", "d"])

    def test_an_earlier_message_of_an_honest_node_withdraws_nothing(self):
        session = Session(TRIO)
        session.vote("b", BALLOT, "commit")
        last = session.message_of("b")
        session.receive("a", last)
        session.receive("a", ("b", NEED, (), ()))
        self.assertEqual(session.received_by("a"), (last,))

    def test_drawn_sessions_by_a_direct_check(self):
        for chance, network, faulty in drawn_cases(34, range(2, 7), 12):
            session, model = Session(network, faulty), Model(network, faulty)
            for _ in range(20):
                step = drawn_step(chance, session, BALLOTS)
                if step is not None:
                    getattr(session, step[0])(*step[1])
                    getattr(model, step[0])(*step[1])
            for name, mine in model.nodes.items():
                self.assertEqual(repr(session.received_by(name)), repr(model.received_by(name)))
                self.assertEqual(repr(session.messages_of(name)), repr(tuple(mine.messages)))
                self.assertEqual(repr(session.votes_of(name)), repr(tuple(sorted(mine.votes))))
                self.assertEqual(repr(session.accepted_by(name)), repr(tuple(sorted(mine.accepts))))
                self.assertEqual(repr(session.confirmed_by(name)), repr(tuple(sorted(mine.confirms))))

    def test_unknown_and_faulty_nodes(self):
        session = example_session()
        for query in (session.messages_of, session.message_of, session.votes_of, session.accepted_by,
                      session.confirmed_by, session.received_by):
            self.assert_unknown(query, {}, {"node": "name"})
            self.assert_refused(session, FaultyNode, {"name": "c"}, query, "c")
            self.assert_refused(session, FaultyNode, {"name": "c"}, query, node="c")

    def test_queries_change_nothing(self):
        session = example_session()
        self.assertEqual(state_of(session), state_of(session))


class ReasonOfTest(SessionTestCase):

    def test_example(self):
        self.assertEqual(example_session().reason_of("a", BALLOT), ("support", ("a", "c")))

    def test_the_reason_at_that_moment(self):
        session = example_session()
        session.vote("b", BALLOT, "commit")
        session.receive("a", session.message_of("b"))
        self.assertEqual(session.reason_of("a", BALLOT), ("support", ("a", "c")))

    def test_blocking(self):
        session = Session(PAIR, ["b"])
        session.receive("a", ("b", (1, ("b",)), (), (COMMIT,)))
        self.assertEqual(session.reason_of("a", BALLOT), ("blocking", ("b",)))

    def test_the_reasons_in_the_events(self):
        chance = random.Random(35)
        for _ in range(30):
            network = drawn_network(chance, 4)
            session = drawn_session(chance, Session(network, ["d"]), BALLOTS, 25)
            reasons = {event[1:3]: event[4] for event in session.all_events() if event[0] == "accepted"}
            for name, ballot in itertools.product("abc", BALLOTS):
                if (name, ballot) in reasons:
                    self.assertEqual(repr(session.reason_of(name, ballot)), repr(reasons[(name, ballot)]))
                else:
                    fields = {"name": name, "ballot": ballot}
                    self.assert_refused(session, NotAccepted, fields, session.reason_of, name, ballot)

    def test_not_accepted(self):
        session = example_session()
        for node, ballot in (("a", (1, "y")), ("a", (2, "x")), ("b", BALLOT), ("a", (True, "x"))):
            self.assert_refused(session, NotAccepted, {"name": node, "ballot": ballot}, session.reason_of, node, ballot)

    def test_any_value(self):
        session = example_session()
        for value in (*ANY_VALUES, *BROKEN_BALLOTS.values(), COMMIT, [1, "x"]):
            self.assert_refused(session, NotAccepted, {"name": "a", "ballot": value}, session.reason_of, "a", value)

    def test_unknown_and_faulty_nodes_come_first(self):
        session = example_session()
        for ballot in (BALLOT, 7, (True, "x")):
            self.assert_unknown(session.reason_of, {"ballot": ballot}, {"node": "name"})
            self.assert_refused(session, FaultyNode, {"name": "c"}, session.reason_of, "c", ballot)

    def test_arguments(self):
        self.assertEqual(example_session().reason_of(ballot=BALLOT, node="a"), ("support", ("a", "c")))


class LimitsTest(SessionTestCase):

    def test_a_session_of_1000_steps(self):
        chance = random.Random(36)
        network = Network([(name, (4, tuple("abcdef"))) for name in "abcdef"])
        ballots = [(number, value) for number in range(7) for value in ("a", "b", "c", "d", "e", "f", "g", "h")]
        session = Session(network, ["f"])
        while len(session) < 1000:
            drawn_session(chance, session, ballots, 10)
        self.assertEqual(len([event for event in session.all_events() if event[0] in ("voted", "received")]),
                         len(session))
        self.assertTrue(session.copy() == session)

    def test_a_message_of_many_statements(self):
        network = Network([(name, (1, ("b",))) for name in "ab"])
        session = Session(network, ["b"])
        statements = sorted(((number, value + end), "commit")
                            for number in range(7) for value in "abcdefgh" for end in "abcdefgh")
        for at in range(0, len(statements), 56):
            events = session.receive("a", ("b", (1, ("a",)), (), tuple(statements[at:at + 56])))
            self.assertEqual([event[0] for event in events], ["received", *["accepted"] * 56, *["confirmed"] * 56])
        self.assertEqual(session.received_by("a"), (("b", (1, ("a",)), (), tuple(statements)),))
        self.assertEqual(len(session.messages_of("a")), len(statements) + 1)
        # What the package returned may be passed back, although it is longer than other messages.
        copied = Session(network)
        self.assert_raises(NotSent, {"name": "b"}, copied.receive, "a", session.received_by("a")[0])
        self.assertEqual(len(session.receive("a", session.received_by("a")[0])), 1)

    def test_errors_are_moot_errors(self):
        with self.assertRaises(MootError):
            Session(TRIO, ["z"])
        with self.assertRaises(UnknownNode):
            Session(TRIO).vote("z", BALLOT, "commit")


if __name__ == "__main__":
    unittest.main()
