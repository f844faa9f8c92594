"""Promises [42] to [45]: what honest nodes know, accept and confirm, and the events of a step."""

import random
import unittest

from oathmoot.networks import Network
from oathmoot.sessions import Session
from tests.model import ANSWERS, Knowledge, Model, drawn_message, drawn_step
from tests.samples import APART, FOUR, PAIR, TRIO, drawn_cases, drawn_network, drawn_requirement

BALLOT = (1, "x")
COMMIT, ABORT = (BALLOT, "commit"), (BALLOT, "abort")
NEED = (2, ("a", "b", "c"))
ALL_FOUR = (3, ("a", "b", "c", "d"))


class DrawnSessionsTest(unittest.TestCase):
    """Every step of drawn sessions against a check over all node sets."""

    def run_both(self, seed, times, sizes, ballots, steps):
        words = []
        for chance, network, faulty in drawn_cases(seed, sizes, times):
            session, model = Session(network, faulty), Model(network, faulty)
            for _ in range(steps):
                step = drawn_step(chance, session, ballots)
                if step is not None:
                    found = getattr(session, step[0])(*step[1])
                    self.assertEqual(repr(found), repr(getattr(model, step[0])(*step[1])))
                    words.extend(event[4][0] if event[0] == "accepted" else event[0] for event in found)
        for word in ("support", "blocking", "confirmed"):
            self.assertGreater(words.count(word), 40, word)

    def test_one_ballot(self):
        self.run_both(41, 30, (2, 3, 4, 5, 6), [BALLOT], 25)

    def test_several_ballots(self):
        self.run_both(42, 16, (2, 3, 4, 5, 6), [(0, "x"), (1, "aa"), (1, "b")], 40)

    def test_six_nodes(self):
        self.run_both(43, 40, (6,), [BALLOT, (2, "x")], 60)

    def test_requirements_that_keep_changing(self):
        chance = random.Random(44)
        late = 0
        for _ in range(60):
            network = drawn_network(chance, chance.randint(3, 5))
            names = network.node_names()
            session, model = Session(network, names[2:]), Model(network, names[2:])
            for node in names[:2]:
                session.vote(node, BALLOT, "commit")
                model.vote(node, BALLOT, "commit")
            for _ in range(25):
                node, sender = chance.choice(names[:2]), chance.choice(names[2:])
                # Often the message says nothing new but the requirement.
                message = (sender, drawn_requirement(chance, names), (), ())
                if chance.random() < 0.4:
                    message = (*message[:2], *drawn_message(chance, network, sender, [BALLOT])[2:])
                found = session.receive(node, message)
                self.assertEqual(repr(found), repr(model.receive(node, message)))
                late += len(found) > 1 and message[2:] == ((), ())
        self.assertGreater(late, 10)


class SupportTest(unittest.TestCase):

    def test_the_largest_set_that_supports(self):
        session = Session(FOUR)
        for name in "abcd":
            session.vote(name, BALLOT, "commit")
        self.assertEqual(len(session.receive("b", session.message_of("d"))), 1)
        self.assertEqual(session.receive("b", session.message_of("a"))[1:], (
            ("accepted", "b", BALLOT, "commit", ("support", ("a", "b", "d"))),
        ))

    def test_a_larger_set_than_needed(self):
        # d is heard before its vote matters, and then one message completes a set of four.
        session = Session(FOUR, ["c", "d"])
        session.vote("a", BALLOT, "commit")
        for sender in "cd":
            session.receive("a", (sender, (4, ("a", "b", "c", "d")), (COMMIT,), ()))
        session.vote("b", BALLOT, "commit")
        self.assertEqual(session.receive("a", session.message_of("b"))[1:], (
            ("accepted", "a", BALLOT, "commit", ("support", ("a", "b", "c", "d"))),
        ))

    def test_a_node_whose_requirement_is_not_satisfied_is_left_out(self):
        session = Session(FOUR, ["c", "d"])
        session.vote("a", BALLOT, "commit")
        session.receive("a", ("d", (1, ("d",)), (COMMIT,), ()))
        session.vote("b", BALLOT, "commit")
        session.receive("a", ("c", (4, ("a", "b", "c", "d")), (ABORT,), ()))
        self.assertEqual(session.receive("a", session.message_of("b"))[1:], (
            ("accepted", "a", BALLOT, "commit", ("support", ("a", "b", "d"))),
        ))

    def test_accepting_counts_as_voting(self):
        session = Session(TRIO, ["c"])
        session.vote("a", BALLOT, "commit")
        self.assertEqual(session.receive("a", ("c", (1, ("c",)), (), (COMMIT,)))[1], (
            "accepted", "a", BALLOT, "commit", ("support", ("a", "c")),
        ))

    def test_the_set_contains_the_node_itself(self):
        # b and c support each other, but a has not voted; they do not block the requirement of a either.
        session = Session(Network([("a", (1, ("a",))), ("b", (1, ("b",))), ("c", (1, ("c",)))]), ["b", "c"])
        for sender in "bc":
            self.assertEqual(len(session.receive("a", (sender, (1, ("b",)), (COMMIT,), (COMMIT,)))), 1)

    def test_a_vote_for_the_other_answer_does_not_support(self):
        session = Session(TRIO, ["c"])
        session.vote("a", BALLOT, "abort")
        self.assertEqual(len(session.receive("a", ("c", NEED, (COMMIT,), ()))), 1)
        self.assertEqual(session.receive("a", ("c", NEED, (ABORT,), ()))[1:], (
            ("accepted", "a", BALLOT, "abort", ("support", ("a", "c"))),
        ))

    def test_no_requirement_is_known_before_a_message(self):
        session = Session(TRIO)
        session.vote("b", BALLOT, "commit")
        self.assertEqual(session.vote("a", BALLOT, "commit"), (("voted", "a", BALLOT, "commit"),))

    def test_votes_of_earlier_messages_count(self):
        session = Session(TRIO, ["c"])
        session.receive("a", ("c", NEED, (COMMIT,), ()))
        session.receive("a", ("c", NEED, (ABORT,), ()))
        session.receive("a", ("c", NEED, (), ()))
        self.assertEqual(session.vote("a", BALLOT, "commit")[1:], (
            ("accepted", "a", BALLOT, "commit", ("support", ("a", "c"))),
        ))


class LastRequirementTest(unittest.TestCase):

    def test_the_requirement_in_the_last_message_counts(self):
        session = Session(TRIO, ["c"])
        session.vote("a", BALLOT, "commit")
        self.assertEqual(len(session.receive("a", ("c", (1, ("b",)), (COMMIT,), ()))), 1)
        self.assertEqual(session.receive("a", ("c", (1, ("c",)), (), ()))[1:], (
            ("accepted", "a", BALLOT, "commit", ("support", ("a", "c"))),
        ))

    def test_an_earlier_requirement_is_forgotten(self):
        session = Session(TRIO, ["c"])
        session.receive("a", ("c", (1, ("c",)), (COMMIT,), ()))
        session.receive("a", ("c", (1, ("b",)), (), ()))
        self.assertEqual(len(session.vote("a", BALLOT, "commit")), 1)

    def test_not_the_requirement_in_the_network(self):
        # In the network c needs two of three; in its message it needs only b.
        session = Session(TRIO, ["c"])
        session.vote("a", BALLOT, "commit")
        self.assertEqual(len(session.receive("a", ("c", (1, ("b",)), (COMMIT,), ()))), 1)

    def test_a_new_requirement_matters_for_all_ballots(self):
        session = Session(TRIO, ["c"])
        ballots = [(number, value) for number in (0, 3) for value in ("x", "y")]
        for ballot in reversed(ballots):
            session.vote("a", ballot, "abort")
        statements = tuple((ballot, "abort") for ballot in ballots)
        self.assertEqual(len(session.receive("a", ("c", (1, ("b",)), statements, ()))), 1)
        self.assertEqual(session.receive("a", ("c", (2, ("c", "a")), (), ()))[1:], tuple(
            ("accepted", "a", ballot, "abort", ("support", ("a", "c"))) for ballot in ballots
        ))

    def test_a_new_requirement_lets_a_node_confirm(self):
        session = Session(TRIO, ["b", "c"])
        session.vote("a", BALLOT, "commit")
        session.receive("a", ("b", (1, ("a",)), (COMMIT,), ()))
        self.assertEqual(session.accepted_by("a"), (COMMIT,))
        self.assertEqual(len(session.receive("a", ("b", (1, ("c",)), (), (COMMIT,)))), 1)
        self.assertEqual(session.receive("a", ("b", (1, ("b",)), (), ()))[1:], (
            ("confirmed", "a", BALLOT, "commit", ("a", "b")),
        ))


class BlockingTest(unittest.TestCase):

    def test_acceptance_by_blocking(self):
        session = Session(TRIO, ["b", "c"])
        self.assertEqual(len(session.receive("a", ("b", NEED, (), (COMMIT,)))), 1)
        self.assertEqual(session.receive("a", ("c", NEED, (), (COMMIT,)))[1], (
            "accepted", "a", BALLOT, "commit", ("blocking", ("b", "c")),
        ))

    def test_votes_do_not_block(self):
        session = Session(TRIO, ["b", "c"])
        for sender in "bc":
            self.assertEqual(len(session.receive("a", (sender, NEED, (COMMIT,), ()))), 1)

    def test_all_nodes_that_accept(self):
        # b alone would do, but the reason names all nodes of which a knows that they accept.
        session = Session(FOUR.with_node("a", (2, ("b", (1, ("c", "d"))))), ["b", "c", "d"])
        self.assertEqual(len(session.receive("a", ("c", ALL_FOUR, (), (COMMIT,)))), 1)
        self.assertEqual(len(session.receive("a", ("d", ALL_FOUR, (COMMIT,), (ABORT,)))), 1)
        self.assertEqual(session.receive("a", ("b", ALL_FOUR, (), (COMMIT,)))[1][4], ("blocking", ("b", "c")))

    def test_nodes_outside_the_own_requirement_are_named_too(self):
        session = Session(PAIR.with_node("c", (1, ("c",))), ["b", "c"])
        session.receive("a", ("c", (1, ("c",)), (), (COMMIT,)))
        self.assertEqual(session.receive("a", ("b", (1, ("c",)), (), (COMMIT,)))[1][4], ("blocking", ("b", "c")))

    def test_the_own_requirement_decides(self):
        session = Session(Network([("a", (2, ("a", (1, ("b", "c"))))), ("b", (1, ("b",))), ("c", (1, ("c",)))]),
                          ["b", "c"])
        self.assertEqual(len(session.receive("a", ("b", (1, ("b",)), (), (ABORT,)))), 1)
        self.assertEqual(session.receive("a", ("c", (1, ("b",)), (), (ABORT,)))[1][4], ("blocking", ("b", "c")))

    def test_against_the_own_vote(self):
        session = Session(PAIR, ["b"])
        session.vote("a", BALLOT, "commit")
        self.assertEqual(session.receive("a", ("b", (1, ("b",)), (), (ABORT,)))[1][:4],
                         ("accepted", "a", BALLOT, "abort"))

    def test_support_comes_before_blocking(self):
        session = Session(PAIR, ["b"])
        session.vote("a", BALLOT, "commit")
        self.assertEqual(session.receive("a", ("b", (1, ("a",)), (), (COMMIT,)))[1:], (
            ("accepted", "a", BALLOT, "commit", ("support", ("a", "b"))),
            ("confirmed", "a", BALLOT, "commit", ("a", "b")),
        ))

    def test_blocking_if_support_fails(self):
        session = Session(PAIR.with_node("c", (1, ("c",))), ["b"])
        session.vote("a", BALLOT, "commit")
        self.assertEqual(session.receive("a", ("b", (1, ("c",)), (COMMIT,), (COMMIT,)))[1:], (
            ("accepted", "a", BALLOT, "commit", ("blocking", ("b",))),
        ))


class BothAnswersTest(unittest.TestCase):

    def test_commit_is_accepted(self):
        session = Session(PAIR, ["b"])
        self.assertEqual(session.receive("a", ("b", (1, ("b",)), (), (ABORT, COMMIT)))[1][:4],
                         ("accepted", "a", BALLOT, "commit"))

    def test_commit_by_blocking_comes_before_abort_by_support(self):
        session = Session(PAIR.with_node("c", (1, ("c",))), ["b"])
        session.vote("a", BALLOT, "abort")
        self.assertEqual(session.receive("a", ("b", (1, ("b",)), (ABORT,), (COMMIT,)))[1], (
            "accepted", "a", BALLOT, "commit", ("blocking", ("b",)),
        ))

    def test_commit_by_support_comes_before_abort_by_blocking(self):
        session = Session(PAIR, ["b"])
        session.vote("a", BALLOT, "commit")
        self.assertEqual(session.receive("a", ("b", (1, ("b",)), (COMMIT,), (ABORT,)))[1], (
            "accepted", "a", BALLOT, "commit", ("support", ("a", "b")),
        ))

    def test_only_one_answer_is_ever_accepted(self):
        session = Session(PAIR, ["b"])
        session.receive("a", ("b", (1, ("b",)), (), (ABORT,)))
        self.assertEqual(len(session.receive("a", ("b", (1, ("b",)), (), (COMMIT,)))), 1)
        self.assertEqual(session.accepted_by("a"), (ABORT,))
        self.assertEqual(session.confirmed_by("a"), (ABORT,))


class StepTest(unittest.TestCase):

    def test_ballots_in_ascending_order(self):
        session = Session(PAIR, ["b"])
        ballots = [(0, "b"), (0, "ba"), (0, "c"), (2, "a"), (6, "a")]
        statements = tuple((ballot, "commit" if at % 2 else "abort") for at, ballot in enumerate(ballots))
        events = session.receive("a", ("b", (1, ("a",)), (), statements))
        self.assertEqual(events[1:], (
            *[("accepted", "a", *statement, ("blocking", ("b",))) for statement in statements],
            *[("confirmed", "a", *statement, ("a", "b")) for statement in statements],
        ))

    def test_confirmed_after_accepted_in_one_step(self):
        events = Session(APART).vote("b", BALLOT, "commit")
        self.assertEqual([event[0] for event in events], ["voted", "accepted", "confirmed"])

    def test_confirmed_later(self):
        session = Session(TRIO)
        for name in "ab":
            session.vote(name, BALLOT, "commit")
        session.receive("a", session.message_of("b"))
        self.assertEqual((session.accepted_by("a"), session.confirmed_by("a")), ((COMMIT,), ()))
        first = session.receive("b", session.messages_of("a")[1])
        self.assertEqual([event[0] for event in first], ["received", "accepted"])
        self.assertEqual(session.receive("b", session.message_of("a"))[1:], (
            ("confirmed", "b", BALLOT, "commit", ("a", "b")),
        ))
        self.assertEqual(session.receive("a", session.message_of("b"))[1:], (
            ("confirmed", "a", BALLOT, "commit", ("a", "b")),
        ))
        self.assertEqual(len(session.receive("a", session.message_of("b"))), 1)

    def test_the_largest_set_that_ratifies(self):
        session = Session(FOUR, ["b", "c", "d"])
        session.vote("a", BALLOT, "commit")
        for sender in "bc":
            session.receive("a", (sender, ALL_FOUR, (COMMIT,), ()))
        self.assertEqual(len(session.receive("a", ("d", (4, ("a", "b", "c", "d")), (), (COMMIT,)))), 1)
        self.assertEqual(len(session.receive("a", ("b", ALL_FOUR, (), (COMMIT,)))), 1)
        self.assertEqual(session.receive("a", ("c", ALL_FOUR, (), (COMMIT,)))[1:], (
            ("confirmed", "a", BALLOT, "commit", ("a", "b", "c", "d")),
        ))

    def test_votes_do_not_ratify(self):
        session = Session(TRIO, ["b", "c"])
        session.vote("a", BALLOT, "commit")
        events = session.receive("a", ("b", NEED, (COMMIT,), ()))
        self.assertEqual([event[0] for event in events], ["received", "accepted"])
        self.assertEqual(len(session.receive("a", ("c", NEED, (COMMIT,), ()))), 1)

    def test_all_events_belong_to_the_acting_node(self):
        session = Session(TRIO)
        for name in "abc":
            session.vote(name, BALLOT, "commit")
        for event in session.receive("a", session.message_of("b")):
            self.assertEqual(event[1], "a")
        self.assertEqual(session.accepted_by("b"), ())

    def test_ballots_do_not_affect_each_other(self):
        ballots = [(0, "x"), (1, "x"), (1, "y")]
        for chance, network, faulty in drawn_cases(45, range(2, 6), 10):
            together = Session(network, faulty)
            apart = {ballot: Model(network, faulty) for ballot in ballots}
            for _ in range(25):
                step = drawn_step(chance, together, ballots)
                if step is None:
                    continue
                events = getattr(together, step[0])(*step[1])
                for ballot, model in apart.items():
                    self.check_alone(events, ballot, model)

    def check_alone(self, events, ballot, model):
        """The step does for one ballot what it does in a session that never heard of another ballot."""
        if events[0][0] == "voted":
            if events[0][2] != ballot:
                self.assertEqual([event for event in events if event[2] == ballot], [])
                return
            alone = model.vote(*events[0][1:])
        else:
            sender, requirement, votes, accepts = events[0][2]
            votes = tuple(statement for statement in votes if statement[0] == ballot)
            accepts = tuple(statement for statement in accepts if statement[0] == ballot)
            alone = model.receive(events[0][1], (sender, requirement, votes, accepts))
        self.assertEqual(alone[1:], tuple(event for event in events[1:] if event[2] == ballot))


class KnowledgeTest(unittest.TestCase):

    def test_unions_of_sets_that_support_or_ratify(self):
        chance = random.Random(46)
        for _ in range(60):
            network = drawn_network(chance, chance.randint(3, 5))
            mine = Knowledge(network, "a")
            mine.votes.append(COMMIT)
            mine.accepts.extend(chance.choice(([], [COMMIT])))
            mine.inbox = [drawn_message(chance, network, sender, [BALLOT]) for sender in network.node_names()[1:]]
            for answer in ANSWERS:
                # The check inside raises if the largest set does not contain all others.
                mine.largest(mine.supports, (BALLOT, answer))
                mine.largest(mine.ratifies, (BALLOT, answer))


if __name__ == "__main__":
    unittest.main()
