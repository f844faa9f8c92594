"""Promise [6], and the last sentences of [52] and [64]. More of the second case of [6], and [7]: test_attacks.py."""

import random
import unittest

from oathmoot.exchange import exchange
from oathmoot.networks import Network
from oathmoot.attacks import attack, is_attack
from oathmoot.intersection import is_intersection_certificate
from oathmoot.sessions import Session
from oathmoot.slots import Slot
from oathmoot.tolerance import tolerance
from tests.model import ANSWERS, drawn_history, drawn_session, drawn_step
from tests.samples import drawn_network, drawn_set, subsets
from tests.slot_model import drawn_decision, drawn_slot

BALLOTS = [(0, "x"), (1, "x"), (1, "y")]


def tolerated_cases(chance, times, sizes):
    """Drawn networks with a drawn set of faulty nodes that they tolerate; mostly some nodes are faulty."""
    found = 0
    while found < times:
        network = drawn_network(chance, chance.choice(sizes))
        faulty = drawn_set(chance, network.node_names(), 0.25)
        honest = [name for name in network.node_names() if name not in faulty]
        if not honest or not faulty and chance.random() < 0.9 or tolerance(network, faulty)[0] != "tolerated":
            continue
        found += 1
        yield network, faulty, honest


class GuaranteeTest(unittest.TestCase):

    def check_accepted(self, accepted, voted):
        """Both are sets of pairs of an honest node and a statement."""
        statements = {statement for name, statement in accepted}
        self.assertLessEqual(statements, {statement for name, statement in voted})
        for ballot in BALLOTS:
            self.assertFalse({(ballot, answer) for answer in ANSWERS} <= statements)

    def check_session(self, session, honest):
        accepted = {(name, statement) for name in honest for statement in session.accepted_by(name)}
        voted = {(name, statement) for name in honest for statement in session.votes_of(name)}
        self.check_accepted(accepted, voted)

    def check_confirmed(self, session, honest):
        """What one honest node confirms, all confirm after the exchange; return how many statements that are."""
        exchange(session, honest)
        confirmed = {session.confirmed_by(name) for name in honest}
        self.assertEqual(len(confirmed), 1)
        return len(confirmed.pop())

    def test_drawn_sessions(self):
        chance = random.Random(81)
        accepted = confirmed = 0
        for network, faulty, honest in tolerated_cases(chance, 150, (2, 3, 4, 5, 6)):
            session = drawn_session(chance, Session(network, faulty), BALLOTS, 40)
            self.check_session(session, honest)
            accepted += sum(len(session.accepted_by(name)) for name in honest)
            confirmed += self.check_confirmed(session, honest)
            self.check_session(session, honest)
        self.assertGreater(accepted, 100)
        self.assertGreater(confirmed, 100)

    def test_faulty_nodes_that_tell_everyone_something_else(self):
        chance = random.Random(82)
        confirmed = 0
        for network, faulty, honest in tolerated_cases(chance, 100, (4, 5, 6)):
            session = Session(network, faulty)
            for name in honest:
                for ballot in BALLOTS:
                    session.vote(name, ballot, chance.choice(ANSWERS))
            for name in honest:
                answer = chance.choice(ANSWERS)
                for sender in sorted(set(faulty)):
                    told = tuple((ballot, answer) for ballot in BALLOTS)
                    session.receive(name, (sender, (1, (sender,)), told, told))
            drawn_session(chance, session, BALLOTS, 20)
            self.check_session(session, honest)
            confirmed += self.check_confirmed(session, honest)
            self.check_session(session, honest)
        self.assertGreater(confirmed, 30)

    def test_after_the_first_confirmation(self):
        # Whatever the faulty nodes send after one node confirmed, the others follow.
        chance = random.Random(83)
        seen = 0
        for network, faulty, honest in tolerated_cases(chance, 100, (3, 4, 5)):
            session = Session(network, faulty)
            for name in honest:
                session.vote(name, (1, "x"), "commit")
            while not any(session.confirmed_by(name) for name in honest):
                step = drawn_step(chance, session, [(1, "x")])
                if step is not None:
                    getattr(session, step[0])(*step[1])
            drawn_session(chance, session, [(1, "x")], 10)
            self.assertEqual(self.check_confirmed(session, honest), 1)
            self.assertEqual(session.confirmed_by(honest[-1]), (((1, "x"), "commit"),))
            seen += 1
        self.assertEqual(seen, 100)

    def test_valid_histories(self):
        chance = random.Random(84)
        accepted = 0
        for network, faulty, honest in tolerated_cases(chance, 100, (2, 3, 4, 5)):
            events = drawn_history(chance, network, faulty, BALLOTS, 60)
            found = {(event[1], event[2:4]) for event in events if event[0] == "accepted"}
            voted = {(event[1], event[2:4]) for event in events if event[0] == "voted"}
            self.check_accepted(found, voted)
            accepted += len(found)
        self.assertGreater(accepted, 50)

    def test_what_is_not_tolerated_can_go_wrong(self):
        # In `trio` a faulty c leads a and b to accept different answers.
        network = Network([(name, (2, ("a", "b", "c"))) for name in "abc"])
        self.assertEqual(tolerance(network, ["c"])[0], "disjoint")
        session = Session(network, ["c"])
        for name, answer in (("a", "commit"), ("b", "abort")):
            session.vote(name, (1, "x"), answer)
            session.receive(name, ("c", (1, ("c",)), (((1, "x"), answer),), ()))
        self.assertEqual(session.accepted_by("a"), (((1, "x"), "commit"),))
        self.assertEqual(session.accepted_by("b"), (((1, "x"), "abort"),))

    def test_a_certificate_of_exactly_one_case(self):
        chance = random.Random(85)
        for size in (1, 2, 3, 4, 5):
            for _ in range(5):
                network = drawn_network(chance, size)
                for faulty in subsets(network.node_names()):
                    found, steps = tolerance(network, faulty), attack(network, faulty)
                    if found[0] == "tolerated":
                        self.assertIsNone(steps)
                        self.assertIs(is_intersection_certificate(network, found[1], faulty=faulty), True)
                    else:
                        self.assertIs(is_attack(network, faulty, steps), True)


class SlotGuaranteeTest(unittest.TestCase):

    def check_decided(self, slot, trusted, honest):
        """The nodes outside a tolerated set decide one value at most, which an honest node nominated."""
        decided = {value for name in trusted for value in slot.decided_by(name)}
        self.assertLessEqual(len(decided), 1)
        voted = {statement for name in honest for statement in slot.votes_of(name)}
        for value in decided:
            self.assertIn(((0, value), "commit"), voted)
        return len(decided)

    def test_drawn_slots(self):
        chance = random.Random(86)
        decided = 0
        for network, faulty, honest in tolerated_cases(chance, 120, (2, 3, 4, 5, 6)):
            slot = Slot(network, faulty, chance.sample(["x", "y", "z"], chance.randint(1, 3)))
            for _ in range(2):
                drawn_decision(chance, slot, 1)
                decided += self.check_decided(slot, honest, honest)
                # What one honest node decided, all decide once they have heard of each other.
                before = {value for name in honest for value in slot.decided_by(name)}
                exchange(slot, honest)
                if before:
                    self.assertEqual({slot.decided_by(name) for name in honest}, {tuple(before)})
                self.check_decided(slot, honest, honest)
        self.assertGreater(decided, 100)

    def test_rival_values(self):
        # The nodes are split between two values, and the faulty ones tell everyone what suits them.
        chance = random.Random(87)
        decided = 0
        for network, faulty, honest in tolerated_cases(chance, 80, (3, 4, 5, 6)):
            slot = Slot(network, faulty, ["x", "y"])
            for value in "xy":
                for name in honest:
                    slot.nominate(name, value)
            exchange(slot, honest)
            for number in (1, 2, 3):
                for name in honest:
                    value = chance.choice("xy")
                    slot.prepare(name, number, value)
                    told = (((number, value), "commit"),)
                    for sender in sorted(set(faulty)):
                        slot.receive(name, (sender, (1, (sender,)), told, told))
                drawn_slot(chance, slot, 30, (number,))
                exchange(slot, honest)
                drawn_slot(chance, slot, 30, (number,))
                decided += self.check_decided(slot, honest, honest)
        self.assertGreater(decided, 20)

    def test_a_tolerated_set_that_contains_the_faulty_nodes(self):
        # Nodes of the set that are not faulty may do as they like.
        chance = random.Random(88)
        decided = 0
        for network, larger, trusted in tolerated_cases(chance, 80, (3, 4, 5, 6)):
            faulty = [name for name in larger if chance.random() < 0.4]
            honest = [name for name in network.node_names() if name not in faulty]
            slot = drawn_decision(chance, Slot(network, faulty, ["x", "y"]), 3)
            decided += self.check_decided(slot, trusted, honest)
        self.assertGreater(decided, 30)


if __name__ == "__main__":
    unittest.main()
