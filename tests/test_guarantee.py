"""Promise [6] as far as it speaks of sessions, and the last sentence of [52]."""

import random
import unittest

from oathmoot.exchange import exchange
from oathmoot.networks import Network
from oathmoot.sessions import Session
from oathmoot.tolerance import tolerance
from tests.model import ANSWERS, drawn_history, drawn_session, drawn_step
from tests.samples import drawn_network, drawn_set

BALLOTS = [(0, "x"), (1, "x"), (1, "y")]


def tolerated_cases(chance, times, sizes):
    """Drawn networks with a drawn set of faulty nodes that they tolerate; mostly some nodes are faulty."""
    found = 0
    while found < times:
        network = drawn_network(chance, chance.choice(sizes))
        faulty = drawn_set(chance, network.node_names(), 0.25)
        honest = [name for name in network.node_names() if name not in faulty]
        if not honest or not faulty and chance.random() < 0.9 or tolerance(network, faulty)[0] != "tolerated":
            continue
        found += 1
        yield network, faulty, honest


class GuaranteeTest(unittest.TestCase):

    def check_accepted(self, accepted, voted):
        """Both are sets of pairs of an honest node and a statement."""
        statements = {statement for name, statement in accepted}
        self.assertLessEqual(statements, {statement for name, statement in voted})
        for ballot in BALLOTS:
            self.assertFalse({(ballot, answer) for answer in ANSWERS} <= statements)

    def check_session(self, session, honest):
        accepted = {(name, statement) for name in honest for statement in session.accepted_by(name)}
        voted = {(name, statement) for name in honest for statement in session.votes_of(name)}
        self.check_accepted(accepted, voted)

    def check_confirmed(self, session, honest):
        """What one honest node confirms, all confirm after the exchange; return how many statements that are."""
        exchange(session, honest)
        confirmed = {session.confirmed_by(name) for name in honest}
        self.assertEqual(len(confirmed), 1)
        return len(confirmed.pop())

    def test_drawn_sessions(self):
        chance = random.Random(81)
        accepted = confirmed = 0
        for network, faulty, honest in tolerated_cases(chance, 150, (2, 3, 4, 5, 6)):
            session = drawn_session(chance, Session(network, faulty), BALLOTS, 40)
            self.check_session(session, honest)
            accepted += sum(len(session.accepted_by(name)) for name in honest)
            confirmed += self.check_confirmed(session, honest)
            self.check_session(session, honest)
        self.assertGreater(accepted, 100)
        self.assertGreater(confirmed, 100)

    def test_faulty_nodes_that_tell_everyone_something_else(self):
        chance = random.Random(82)
        confirmed = 0
        for network, faulty, honest in tolerated_cases(chance, 100, (4, 5, 6)):
            session = Session(network, faulty)
            for name in honest:
                for ballot in BALLOTS:
                    session.vote(name, ballot, chance.choice(ANSWERS))
            for name in honest:
                answer = chance.choice(ANSWERS)
                for sender in sorted(set(faulty)):
                    told = tuple((ballot, answer) for ballot in BALLOTS)
                    session.receive(name, (sender, (1, (sender,)), told, told))
            drawn_session(chance, session, BALLOTS, 20)
            self.check_session(session, honest)
            confirmed += self.check_confirmed(session, honest)
            self.check_session(session, honest)
        self.assertGreater(confirmed, 30)

    def test_after_the_first_confirmation(self):
        # Whatever the faulty nodes send after one node confirmed, the others follow.
        chance = random.Random(83)
        seen = 0
        for network, faulty, honest in tolerated_cases(chance, 100, (3, 4, 5)):
            session = Session(network, faulty)
            for name in honest:
                session.vote(name, (1, "x"), "commit")
            while not any(session.confirmed_by(name) for name in honest):
                step = drawn_step(chance, session, [(1, "x")])
                if step is not None:
                    getattr(session, step[0])(*step[1])
            drawn_session(chance, session, [(1, "x")], 10)
            self.assertEqual(self.check_confirmed(session, honest), 1)
            self.assertEqual(session.confirmed_by(honest[-1]), (((1, "x"), "commit"),))
            seen += 1
        self.assertEqual(seen, 100)

    def test_valid_histories(self):
        chance = random.Random(84)
        accepted = 0
        for network, faulty, honest in tolerated_cases(chance, 100, (2, 3, 4, 5)):
            events = drawn_history(chance, network, faulty, BALLOTS, 60)
            found = {(event[1], event[2:4]) for event in events if event[0] == "accepted"}
            voted = {(event[1], event[2:4]) for event in events if event[0] == "voted"}
            self.check_accepted(found, voted)
            accepted += len(found)
        self.assertGreater(accepted, 50)

    def test_what_is_not_tolerated_can_go_wrong(self):
        # In `trio` a faulty c leads a and b to accept different answers.
        network = Network([(name, (2, ("a", "b", "c"))) for name in "abc"])
        self.assertEqual(tolerance(network, ["c"])[0], "disjoint")
        session = Session(network, ["c"])
        for name, answer in (("a", "commit"), ("b", "abort")):
            session.vote(name, (1, "x"), answer)
            session.receive(name, ("c", (1, ("c",)), (((1, "x"), answer),), ()))
        self.assertEqual(session.accepted_by("a"), (((1, "x"), "commit"),))
        self.assertEqual(session.accepted_by("b"), (((1, "x"), "abort"),))


if __name__ == "__main__":
    unittest.main()
