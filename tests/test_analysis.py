"""Promises [61] to [63], and [2], [3], [4] and [20] as far as they bear on analysis.py."""

import itertools
import random
import unittest

from oathmoot.analysis import explain_messages, explains, followers
from oathmoot.errors import FaultyNode, InvalidMessage, OtherSender
from oathmoot.histories import is_valid_history
from oathmoot.networks import Network
from oathmoot.sessions import Session
from tests import direct
from tests.cases import RaisingTestCase
from tests.model import ANSWERS, drawn_history, drawn_session, drawn_statements, model_after
from tests.samples import (
    APART, FOUR, OTHER_VALUES, PAIR, TRIO, drawn_cases, drawn_network, drawn_requirement, is_blocked, is_satisfied,
)
from tests.test_messages import ANY_VALUES, BROKEN_MESSAGES

BALLOT, NEXT, LAST = (1, "x"), (1, "y"), (2, "x")
COMMIT, ABORT = (BALLOT, "commit"), (BALLOT, "abort")
NEED = (2, ("a", "b", "c"))
BALLOTS = [(0, "x"), (1, "x"), (1, "y")]
# Two nodes that need only each other, and c, which needs both: nobody can make a accept without its vote.
LOOP = Network([("a", (1, ("b",))), ("b", (1, ("a",))), ("c", (2, ("a", "b")))])


def message(votes=(), accepts=(), sender="a", requirement=NEED):
    return (sender, requirement, tuple(sorted(votes)), tuple(sorted(accepts)))


def followers_by_words(network, faulty, node):
    """[61], the largest quorum found among all sets and the others added in descending order of names."""
    others = [name for name in direct.honest_nodes(network, faulty) if name != node]
    inside = [nodes for nodes in direct.quorums(network, faulty) if node not in nodes]
    found = set(max(inside, key=len)) if inside else set()
    while True:
        more = [name for name in reversed(others) if name not in found
                and is_blocked(network.requirement_of(name), set(faulty) | found)]
        if not more:
            return tuple(sorted(found))
        found.add(more[0])


def obstacles(network, faulty, messages):
    """All tuples of [62] that apply, kind by kind."""
    sender = messages[0][0]
    need = network.requirement_of(sender)
    sets = [(set(entry[2]), set(entry[3])) for entry in messages]
    places = range(len(messages))
    on = [({ballot for ballot, answer in votes}, {ballot for ballot, answer in accepts}) for votes, accepts in sets]
    aware = is_blocked(need, set(faulty) | set(followers_by_words(network, faulty, sender)))
    return [
        [("requirement", i) for i in places if messages[i][1] != need],
        [("order", i, j) for i in places for j in places if i < j
         and not (sets[i][0] <= sets[j][0] and sets[i][1] <= sets[j][1])
         and not (sets[j][0] <= sets[i][0] and sets[j][1] <= sets[i][1])],
        [("contradiction", i, ballot) for i in places for side in (0, 1) for ballot in on[i][side]
         if {(ballot, answer) for answer in ANSWERS} <= sets[i][side]],
        [("late", i, j, ballot) for i in places for j in places for ballot in (on[i][1] - on[i][0]) & on[j][0]],
        [("cause", i, statement[0]) for i in places for statement in sets[i][1] - sets[i][0] if not aware],
    ]


class OneBallot:
    """All that honest nodes can do on one ballot, if everything they say is heard at once.

    More that is heard never prevents anything, so the faulty nodes may as well say everything, and need only
    themselves. A state tells for each honest node its vote and its accepted answer.
    """

    def __init__(self, network, faulty, sender):
        self.needs = {name: network.requirement_of(name) for name in direct.honest_nodes(network, faulty)}
        self.names = tuple(self.needs)
        self.faulty = set(faulty)
        self.place = self.names.index(sender)

    def can_accept(self, state, at, answer):
        agreeing = [name for name, own in zip(self.names, state) if answer in own]
        accepting = {name for name, own in zip(self.names, state) if own[1] == answer}
        if is_blocked(self.needs[self.names[at]], accepting | self.faulty):
            return True
        for size in range(1, len(agreeing) + 1):
            for nodes in itertools.combinations(agreeing, size):
                everyone = set(nodes) | self.faulty
                if self.names[at] in nodes and all(is_satisfied(self.needs[name], everyone) for name in nodes):
                    return True
        return False

    def next_states(self, state):
        for at, (vote, accept) in enumerate(state):
            for answer in ANSWERS:
                if vote is None and accept is None:
                    yield (*state[:at], (answer, accept), *state[at + 1:])
                if accept is None and self.can_accept(state, at, answer):
                    yield (*state[:at], (vote, answer), *state[at + 1:])

    def can_show(self, wanted):
        """Whether the sender's own part of the state can become each of the wanted ones, in this order."""
        waiting = [(((None, None),) * len(self.names), 0)]
        seen = set(waiting)
        while waiting:
            state, count = waiting.pop()
            while count < len(wanted) and state[self.place] == wanted[count]:
                count += 1
            if count == len(wanted):
                return True
            for after in self.next_states(state):
                if (after, count) not in seen:
                    seen.add((after, count))
                    waiting.append((after, count))
        return False


def is_possible(network, faulty, messages):
    """Whether some history lets the sender send the messages. Ballots do not affect each other, only the order does."""
    sender = messages[0][0]
    if any(entry[1] != network.requirement_of(sender) for entry in messages):
        return False
    if any(len(side) != len({ballot for ballot, answer in side}) for entry in messages for side in entry[2:]):
        return False
    game = OneBallot(network, faulty, sender)
    ballots = {ballot for entry in messages for ballot, answer in entry[2] + entry[3]}
    for order in itertools.permutations(set(messages)):
        if all(game.can_show([(dict(entry[2]).get(ballot), dict(entry[3]).get(ballot)) for entry in order])
               for ballot in ballots):
            return True
    return False


def drawn_messages(chance, network, sender, ballots, count):
    """Messages as a node may collect them, sometimes changed afterwards, in any order."""
    need = network.requirement_of(sender)
    votes, accepts, found = [], [], []
    for _ in range(count):
        for ballot in ballots:
            answer = chance.choice(ANSWERS)
            if chance.random() < 0.5 and ballot not in dict(votes) and (
                    ballot not in dict(accepts) or chance.random() < 0.1):
                votes.append((ballot, answer))
            if chance.random() < 0.4 and ballot not in dict(accepts):
                answer = dict(votes).get(ballot, answer) if chance.random() < 0.8 else answer
                accepts.append((ballot, answer))
        found.append(message(votes, accepts, sender, need))
    if chance.random() < 0.3:
        at = chance.randrange(count)
        changed = list(found[at])
        if chance.random() < 0.2:
            changed[1] = drawn_requirement(chance, network.node_names())
        else:
            changed[chance.choice((2, 3))] = drawn_statements(chance, ballots, 0.3)
        found[at] = tuple(changed)
    chance.shuffle(found)
    return chance.choice((list, tuple))(found)


class FollowersTest(RaisingTestCase):

    def test_example(self):
        self.assertEqual(followers(TRIO, ["c"], "a"), ("b",))

    def test_by_words(self):
        sizes = []
        for chance, network, faulty in drawn_cases(111, range(1, 7), 40):
            for node in direct.honest_nodes(network, faulty):
                found = followers(network, faulty, node)
                self.assertEqual(repr(found), repr(followers_by_words(network, faulty, node)))
                self.assertNotIn(node, found)
                self.assertFalse(set(found) & set(faulty))
                inside = [nodes for nodes in direct.quorums(network, faulty) if node not in nodes]
                sizes.append((len(found) > 0, len(found) - max([0, *map(len, inside)])))
        self.assertGreater(len([1 for some, more in sizes if more > 0]), 20)
        self.assertGreater(len([1 for some, more in sizes if more > 1]), 3)
        self.assertGreater(sizes.count((False, 0)), 20)

    def test_nodes_added_one_after_another(self):
        # c needs only d, b needs only c: with d faulty they follow, and the quorum without a is empty.
        network = Network([("a", (2, ("b", "c"))), ("b", (2, ("a", "c"))), ("c", (2, ("a", "d"))), ("d", (1, ("d",)))])
        self.assertEqual(followers(network, ["d"], "a"), ("b", "c"))
        self.assertEqual(followers(network, (), "a"), ("b", "c", "d"))
        self.assertEqual(followers(network, (), "d"), ())
        self.assertEqual(followers(network, ("b", "c", "d"), "a"), ())

    def test_the_quorum_counts_the_faulty_nodes(self):
        self.assertEqual(followers(FOUR, (), "a"), ("b", "c", "d"))
        self.assertEqual(followers(FOUR, ["d"], "a"), ("b", "c"))
        self.assertEqual(followers(FOUR, ["c", "d"], "a"), ("b",))
        self.assertEqual(followers(PAIR, (), "a"), ())
        self.assertEqual(followers(PAIR, ["b"], "a"), ())

    def test_the_node_itself_does_not_block(self):
        # b needs a and itself. If a counted as a follower of its own, b would be blocked by it.
        network = Network([("a", (1, ("a",))), ("b", (2, ("a", "b"))), ("c", (1, ("c",)))])
        self.assertEqual(followers(network, ["c"], "a"), ())
        self.assertEqual(followers(network, ["c"], "b"), ("a",))
        self.assertEqual(followers(network, ["a"], "c"), ("b",))

    def test_faulty_nodes(self):
        for faulty in (["a"], ("b", "a"), ["a", "c", "a"], "abcd"):
            self.assert_raises(FaultyNode, {"name": "a"}, followers, FOUR, faulty, "a")

    def test_arguments(self):
        self.assertEqual(followers(node="a", faulty=["c"], network=TRIO), ("b",))
        self.assertEqual(self.assert_unchanged(followers, FOUR, ["d", "c", "d"], "b"), ("a",))
        self.assert_unknown(followers, {"network": FOUR}, {"faulty": "set", "node": "name"})


class ExplainTestCase(RaisingTestCase):

    def check_history(self, network, faulty, messages, events):
        """A direct check of [52] and [49], and by the functions that check histories."""
        self.assertIsInstance(events, tuple)
        model = model_after(network, faulty, events)
        self.assertIsNotNone(model)
        for entry in messages:
            self.assertIn(entry, model.nodes[entry[0]].messages)
        self.assertIs(is_valid_history(network, faulty, events), True)
        self.assertIs(explains(network, faulty, messages, events), True)
        self.assertLessEqual(len(events), 3000)

    def assert_possible(self, network, faulty, messages):
        found = explain_messages(network, faulty, messages)
        self.assertIsInstance(found, tuple)
        self.assertEqual((len(found), found[0]), (2, "possible"), found)
        self.check_history(network, faulty, messages, found[1])

    def assert_obstacle(self, network, faulty, messages, expected):
        for form in (tuple(messages), list(messages)):
            self.assertEqual(repr(explain_messages(network, faulty, form)), repr(expected))


class ExplainTest(ExplainTestCase):

    def test_example(self):
        self.assert_possible(TRIO, (), [message((), (ABORT,))])

    def test_what_was_sent_in_drawn_sessions(self):
        counts = []
        for chance, network, faulty in drawn_cases(112, range(1, 7), 15):
            session = drawn_session(chance, Session(network, faulty), BALLOTS, 40)
            for name in direct.honest_nodes(network, faulty):
                sent = session.messages_of(name)
                for count in (1, 8, chance.randint(1, 8)):
                    messages = [chance.choice(sent) for _ in range(count)]
                    self.assert_possible(network, faulty, messages)
                counts.append(len(sent))
        self.assertGreater(max(counts), 5)

    def test_what_was_sent_in_drawn_histories(self):
        # In these histories a node accepts either answer, and with any reason.
        accepted = 0
        for chance, network, faulty in drawn_cases(113, range(2, 6), 15):
            events = drawn_history(chance, network, faulty, BALLOTS, 60)
            model = model_after(network, faulty, events)
            for name, mine in model.nodes.items():
                messages = chance.sample(mine.messages, min(8, len(mine.messages)))
                self.assert_possible(network, faulty, messages)
                accepted += len(set(mine.accepts) - set(mine.votes))
        self.assertGreater(accepted, 10)

    def check_drawn(self, seed, sizes, times, ballots, most, shares):
        kinds = []
        for chance, network, faulty in drawn_cases(seed, sizes, times, shares):
            honest = direct.honest_nodes(network, faulty)
            if not honest or len(honest) > 3:
                continue
            messages = drawn_messages(chance, network, chance.choice(honest), ballots, chance.randint(1, most))
            applying = [found for found in obstacles(network, faulty, messages) if found]
            if applying:
                self.assert_obstacle(network, faulty, messages, min(applying[0]))
            else:
                self.assert_possible(network, faulty, messages)
            self.assertEqual(is_possible(network, faulty, messages), not applying)
            kinds.append(min(applying[0])[0] if applying else "possible")
        return kinds

    def test_drawn_messages_by_a_direct_check(self):
        kinds = self.check_drawn(114, (1, 2, 3, 4, 5), 250, [BALLOT, NEXT], 4, (0, 0.3, 0.5))
        for kind in ("possible", "requirement", "order", "contradiction", "late", "cause"):
            self.assertGreater(kinds.count(kind), 5, kind)

    def test_drawn_single_messages_by_a_direct_check(self):
        kinds = self.check_drawn(115, (2, 3, 4, 5), 200, [BALLOT], 1, (0, 0.2, 0.4))
        for kind in ("possible", "contradiction", "cause"):
            self.assertGreater(kinds.count(kind), 5, kind)

    def test_drawn_messages_by_words(self):
        # More nodes and more ballots than a search over all histories allows.
        kinds = []
        for chance, network, faulty in drawn_cases(116, (3, 4, 5, 6), 80):
            honest = direct.honest_nodes(network, faulty)
            if not honest:
                continue
            ballots = chance.sample([(0, "x"), (1, "x"), (1, "y"), (3, "z"), (6, "a")], chance.randint(1, 5))
            messages = drawn_messages(chance, network, chance.choice(honest), ballots, chance.randint(1, 8))
            applying = [found for found in obstacles(network, faulty, messages) if found]
            if applying:
                self.assert_obstacle(network, faulty, messages, min(applying[0]))
            else:
                self.assert_possible(network, faulty, messages)
            kinds.append(min(applying[0])[0] if applying else "possible")
        self.assertGreater(kinds.count("possible"), 20)
        self.assertGreater(kinds.count("late") + kinds.count("cause"), 20)


class ObstaclesTest(ExplainTestCase):

    def test_requirement(self):
        wrong = message(requirement=(2, ("b", "a", "c")))
        self.assert_obstacle(TRIO, (), [wrong], ("requirement", 0))
        self.assert_obstacle(TRIO, (), [message(), message((COMMIT,)), wrong, wrong], ("requirement", 2))
        self.assert_obstacle(TRIO, ["b", "c"], [message(requirement=(1, ("a",)))], ("requirement", 0))

    def test_order(self):
        one, other = message((COMMIT,)), message(((NEXT, "commit"),))
        both = message((COMMIT, (NEXT, "commit")))
        self.assert_obstacle(TRIO, (), [one, other], ("order", 0, 1))
        self.assert_obstacle(TRIO, (), [other, both, one, other], ("order", 0, 2))
        self.assert_obstacle(TRIO, (), [both, message(), one, one, other], ("order", 2, 4))
        self.assert_possible(TRIO, (), [both, one, one, message(), both])
        # More votes and fewer accepts are no order either.
        self.assert_obstacle(TRIO, (), [message((COMMIT,)), message((), (ABORT,))], ("order", 0, 1))

    def test_contradiction(self):
        votes, accepts = message((COMMIT, ABORT)), message((), (COMMIT, ABORT))
        self.assert_obstacle(TRIO, (), [votes], ("contradiction", 0, BALLOT))
        self.assert_obstacle(TRIO, (), [accepts], ("contradiction", 0, BALLOT))
        self.assert_obstacle(TRIO, (), [message(), message(accepts=(COMMIT,)), accepts], ("contradiction", 2, BALLOT))
        # The smallest ballot counts, whether it is among the votes or among the accepts.
        later = ((LAST, "abort"), (LAST, "commit"))
        self.assert_obstacle(TRIO, (), [message(later, (COMMIT, ABORT))], ("contradiction", 0, BALLOT))
        self.assert_obstacle(TRIO, (), [message((COMMIT, ABORT), later)], ("contradiction", 0, BALLOT))
        # A vote for one answer and the other one accepted are no contradiction.
        self.assert_possible(TRIO, (), [message((COMMIT,), (ABORT,))])
        self.assert_possible(TRIO, (), [message((ABORT,), (COMMIT,)), message((ABORT,))])

    def test_late(self):
        accepting, voting = message((), (COMMIT,)), message((COMMIT,), (COMMIT,))
        self.assert_obstacle(TRIO, (), [accepting, voting], ("late", 0, 1, BALLOT))
        self.assert_obstacle(TRIO, (), [voting, accepting], ("late", 1, 0, BALLOT))
        self.assert_obstacle(TRIO, (), [message(), accepting, accepting, voting], ("late", 1, 3, BALLOT))
        self.assert_obstacle(TRIO, (), [accepting, message((ABORT,), (COMMIT,))], ("late", 0, 1, BALLOT))
        two = (COMMIT, (LAST, "abort"))
        self.assert_obstacle(TRIO, (), [message((), two), message(two, two)], ("late", 0, 1, BALLOT))
        self.assert_obstacle(TRIO, (), [message((COMMIT,), two), message(two, two)], ("late", 0, 1, LAST))
        self.assert_obstacle(TRIO, (), [message((), two), message(two[1:], two), message(two, two)],
                             ("late", 0, 1, LAST))
        self.assert_possible(TRIO, (), [voting, message((COMMIT,)), message()])

    def test_cause(self):
        need = LOOP.requirement_of("a")
        alone = message((), (COMMIT,), requirement=need)
        self.assert_obstacle(LOOP, (), [alone], ("cause", 0, BALLOT))
        self.assert_obstacle(LOOP, ["c"], [message(requirement=need), alone], ("cause", 1, BALLOT))
        against = message((ABORT,), (COMMIT,), requirement=need)
        self.assert_obstacle(LOOP, (), [against], ("cause", 0, BALLOT))
        two = message((COMMIT,), (COMMIT, (LAST, "abort")), requirement=need)
        self.assert_obstacle(LOOP, (), [two, two], ("cause", 0, LAST))
        self.assert_possible(LOOP, (), [message((COMMIT,), (COMMIT,), requirement=need)])

    def test_followers_that_block(self):
        need = LOOP.requirement_of("a")
        for entry in (message((), (COMMIT,), requirement=need), message((ABORT,), (COMMIT,), requirement=need)):
            self.assert_possible(LOOP, ["b"], [entry])
            self.assert_possible(LOOP, ["c", "b", "c"], [message(requirement=need), entry])
        # The nodes of `four` other than a block it: all three with nobody faulty, and each pair of them.
        need = FOUR.requirement_of("a")
        for faulty in ((), ["d"], ["c", "d"], ["b", "c", "d"]):
            self.assert_possible(FOUR, faulty, [message((), (COMMIT,), requirement=need)])
        # In `apart` a convinces itself, and b alone does not block it.
        need = APART.requirement_of("a")
        for faulty in ((), ["b"]):
            self.assert_obstacle(APART, faulty, [message((), (COMMIT,), requirement=need)], ("cause", 0, BALLOT))
            self.assert_possible(APART, faulty, [message((COMMIT,), (COMMIT,), requirement=need)])

    def test_followers_that_are_blocked_one_after_another(self):
        network = Network([("a", (1, ("b",))), ("b", (2, ("a", "c"))), ("c", (2, ("a", "d"))), ("d", (1, ("d",)))])
        need = network.requirement_of("a")
        entry = message((), (COMMIT, (LAST, "abort")), requirement=need)
        self.assert_possible(network, ["d"], [entry])
        self.assert_possible(network, (), [entry, message(requirement=need)])
        self.assert_obstacle(network.with_node("c", (1, ("a",))), ["d"], [entry], ("cause", 0, BALLOT))

    def test_the_first_kind_wins(self):
        need = LOOP.requirement_of("a")
        cause = message((), (COMMIT,), requirement=need)
        late = message((COMMIT,), (COMMIT,), requirement=need)
        contradiction = message((COMMIT, ABORT), (COMMIT,), requirement=need)
        order = message(((LAST, "abort"),), requirement=need)
        requirement = message((), (COMMIT,))
        self.assert_obstacle(LOOP, (), [cause], ("cause", 0, BALLOT))
        self.assert_obstacle(LOOP, (), [cause, late], ("late", 0, 1, BALLOT))
        self.assert_obstacle(LOOP, (), [cause, late, contradiction], ("contradiction", 2, BALLOT))
        self.assert_obstacle(LOOP, (), [cause, late, contradiction, order], ("order", 0, 3))
        self.assert_obstacle(LOOP, (), [cause, late, contradiction, order, requirement], ("requirement", 4))

    def test_many_statements(self):
        ballots = [(number, letter) for number in range(6) for letter in "abcdefghij"]
        votes = tuple(sorted((ballot, "commit") for ballot in ballots[:30]))
        accepts = tuple(sorted((ballot, "abort") for ballot in ballots[:30]))
        network = Network([(name, (3, tuple("abcdef"))) for name in "abcdef"])
        need = network.requirement_of("a")
        chain = [message(votes[:at * 4], accepts[:at * 4], requirement=need) for at in range(8)]
        self.assert_possible(network, ["f"], chain[::-1])
        self.assert_possible(network, (), [message((), [(ballot, "commit") for ballot in ballots], requirement=need)])
        statements = [(ballot, "commit") for ballot in ballots[:30]]
        self.assert_possible(network, (), [message(statements, statements, requirement=need)])

    def test_one_node(self):
        network = Network([("a", (1, ("a",)))])
        need = (1, ("a",))
        self.assert_possible(network, (), [message((COMMIT,), (COMMIT,), requirement=need)])
        self.assert_obstacle(network, (), [message((), (COMMIT,), requirement=need)], ("cause", 0, BALLOT))


class WrongMessagesTest(ExplainTestCase):

    def test_messages_of_every_kind(self):
        good = message()
        for value in (*ANY_VALUES, *BROKEN_MESSAGES.values(), list(good)):
            for messages in ([value], (good, value), [good, value, 7], (value, message(sender="b"))):
                self.assert_raises(InvalidMessage, {"value": value}, explain_messages, TRIO, ["b"], messages)

    def test_invalid_messages_come_before_faulty_and_other_senders(self):
        messages = [message(sender="b"), message(sender="a"), None]
        self.assert_raises(InvalidMessage, {"value": None}, explain_messages, TRIO, ["b"], messages)

    def test_faulty_senders_come_before_other_senders(self):
        messages = [message(sender="b"), message(sender="a")]
        self.assert_raises(FaultyNode, {"name": "b"}, explain_messages, TRIO, ["c", "b"], messages)
        self.assert_raises(FaultyNode, {"name": "b"}, explain_messages, TRIO, ["c", "b"], messages[:1])

    def test_other_senders(self):
        # Only the sender of the first message is asked whether it is faulty.
        for count in range(1, 8):
            messages = [message()] * count + [message(sender="c"), message(sender="b")]
            for faulty in ((), ["c"], ["b", "c"]):
                self.assert_raises(OtherSender, {"index": count}, explain_messages, TRIO, faulty, messages[:8])

    def test_other_senders_come_before_what_is_impossible(self):
        messages = [message((COMMIT, ABORT)), message(sender="c")]
        self.assert_raises(OtherSender, {"index": 1}, explain_messages, TRIO, (), messages)

    def test_arguments(self):
        found = explain_messages(messages=[message()], faulty=["c"], network=TRIO)
        self.assertEqual(found[0], "possible")
        for messages in ([message()], [message((COMMIT, ABORT))], [message((), (COMMIT,)), message()]):
            self.assert_unchanged(explain_messages, TRIO, ["c", "c"], messages)
        for messages in ([message()], [None], [message(sender="z")], [message(sender="b"), message()]):
            self.assert_unknown(explain_messages, {"network": TRIO, "messages": messages}, {"faulty": "set"})
            self.assert_unknown_without_nodes(explain_messages, {"messages": messages}, ["faulty"])

    def test_two_networks_in_turn(self):
        entry = message((), (COMMIT,), requirement=(1, ("b",)))
        other = PAIR.with_node("b", (1, ("b",)))
        for _ in range(2):
            self.assert_obstacle(PAIR, (), [entry], ("cause", 0, BALLOT))
            self.assert_possible(other, (), [entry])

    def test_lists_that_are_changed_afterwards(self):
        messages, faulty = [message((), (COMMIT,))], ["c"]
        word, events = explain_messages(TRIO, faulty, messages)
        messages.append(None)
        faulty[0] = "b"
        self.check_history(TRIO, ["c"], messages[:1], events)

    def test_no_message_and_more_than_eight(self):
        # The document speaks of 1 to 8 messages and names no error for others.
        self.assertEqual(explain_messages(TRIO, (), [])[0], "possible")
        self.assert_possible(TRIO, (), [message()] * 10)


class ExplainsTest(RaisingTestCase):

    EVENTS = (
        ("voted", "a", BALLOT, "commit"),
        ("received", "a", ("c", (1, ("c",)), (COMMIT,), ())),
        ("accepted", "a", BALLOT, "commit", ("support", ("a", "c"))),
        ("voted", "b", BALLOT, "abort"),
    )

    def check(self, messages, expected, events=EVENTS, faulty=("c",)):
        for form in (tuple(messages), list(messages)):
            for written in (tuple(events), list(events)):
                self.assertIs(explains(TRIO, faulty, form, written), expected)

    def test_example(self):
        self.assertIs(explains(PAIR, (), [("a", (1, ("b",)), (), ())], []), True)

    def test_no_messages(self):
        self.check([], True)
        self.check([], True, ())
        self.check([], False, self.EVENTS[1:])

    def test_before_the_first_event_after_some_event_and_after_the_last_one(self):
        first, second, third = message(), message((COMMIT,)), message((COMMIT,), (COMMIT,))
        for entry in (first, second, third, message(sender="b"), message((ABORT,), sender="b")):
            self.check([entry], True)
        self.check([third, first, second, third], True)
        for count, sent in enumerate(([first], [first, second], [first, second], [first, second, third])):
            for entry in (first, second, third):
                self.check([entry], entry in sent, self.EVENTS[:count])

    def test_never_sent(self):
        for entry in (message((ABORT,)), message((), (COMMIT,)), message((COMMIT,), (ABORT,)),
                      message((COMMIT, (LAST, "abort"))), message(requirement=(2, ("c", "b", "a"))),
                      message((COMMIT,), sender="b"), message((ABORT,), (ABORT,), sender="b")):
            self.check([entry], False)
            self.check([message(), entry], False)
            self.check([entry, message()], False)

    def test_several_senders(self):
        self.check([message(sender="b"), message((COMMIT,)), message((ABORT,), sender="b"), message()], True)
        self.check([message(sender="b"), message((COMMIT,)), message((COMMIT,), sender="b")], False)

    def test_a_sender_in_faulty(self):
        for entry in (("c", (1, ("c",)), (COMMIT,), ()), message(sender="c"), ("c", (1, ("c",)), (), ())):
            self.check([entry], False)
            self.check([message(), entry], False)
        self.check([message(sender="c")], True, (), ())
        self.check([message(sender="c")], False, (), ("c", "b"))

    def test_events_that_are_no_valid_history(self):
        for at, valid in enumerate((False, False, True, True)):
            self.check([message()], valid, (*self.EVENTS[:at], *self.EVENTS[at + 1:]))
        self.check([message()], False, (*self.EVENTS, self.EVENTS[0]))
        self.check([message()], False, self.EVENTS, ())
        self.check([message()], False, self.EVENTS, ("a",))

    def test_values_of_every_kind(self):
        for value in (*[entry for entry in ANY_VALUES if entry not in ((), [])], *OTHER_VALUES, list(self.EVENTS[0]),
                      self.EVENTS[0], [list(event) for event in self.EVENTS]):
            if value not in ((), []):
                for messages in ([], [message()]):
                    self.assertIs(explains(TRIO, ["c"], messages, value), False, value)

    def test_drawn_histories_by_a_direct_check(self):
        answers = []
        for chance, network, faulty in drawn_cases(117, range(2, 6), 20):
            events = drawn_history(chance, network, faulty, BALLOTS, 40)
            model = model_after(network, faulty, events)
            sent = [entry for mine in model.nodes.values() for entry in mine.messages]
            for _ in range(8):
                if chance.random() < 0.5 and sent:
                    messages = chance.choices(sent, k=chance.randint(1, 5))
                else:
                    sender = chance.choice(network.node_names())
                    messages = drawn_messages(chance, network, sender, BALLOTS, chance.randint(1, 2))
                count = chance.randint(0, len(events))
                before = model_after(network, faulty, events[:count])
                expected = all(entry[0] in before.nodes and entry in before.nodes[entry[0]].messages
                               for entry in messages)
                self.assertIs(explains(network, faulty, messages, events[:count]), expected)
                answers.append(expected)
        self.assertGreater(answers.count(True), 30)
        self.assertGreater(answers.count(False), 30)

    def test_arguments(self):
        self.assertIs(explains(events=(), messages=[message()], faulty=["b"], network=TRIO), True)
        self.assert_unchanged(explains, TRIO, ["c", "c"], [message()], list(self.EVENTS))
        for messages, events in (([], ()), ([message()], 7), ([message(sender="c")], self.EVENTS)):
            arguments = {"network": TRIO, "messages": messages, "events": events}
            self.assert_unknown(explains, arguments, {"faulty": "set"})
            self.assert_unknown_without_nodes(explains, {"messages": messages, "events": events}, ["faulty"])

    def test_six_nodes(self):
        chance = random.Random(118)
        for _ in range(10):
            network = drawn_network(chance, 6)
            session = drawn_session(chance, Session(network, ["f"]), BALLOTS, 60)
            messages = [session.message_of(name) for name in "abcde"]
            self.assertIs(explains(network, ["f"], messages, session.all_events()), True)


if __name__ == "__main__":
    unittest.main()
