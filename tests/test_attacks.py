"""Promises [56] to [60], [7] and the second case of [6]; [2], [3], [4] and [20] as far as they bear on attacks.py."""

import itertools
import random
import unittest

from oathmoot.attacks import attack, confirm_alone, confirms_alone, is_attack, mislead, misleads
from oathmoot.errors import FaultyNode, MootError
from oathmoot.networks import Network
from oathmoot.sessions import Session
from oathmoot.tolerance import dependent_nodes, tolerance
from tests import direct
from tests.cases import RaisingTestCase
from tests.model import ANSWERS, Model, drawn_step
from tests.samples import APART, FOUR, OTHER_VALUES, PAIR, TRIO, drawn_cases, drawn_network, drawn_set, subsets
from tests.test_messages import ANY_VALUES, BROKEN_BALLOTS, BROKEN_MESSAGES

BALLOT = (1, "x")
COMMIT, ABORT = (BALLOT, "commit"), (BALLOT, "abort")
EXAMPLE = (("receive", "a", ("b", (1, ("b",)), (), (COMMIT,))),)
# In `trio` a faulty c leads a and b to different answers.
SPLIT = (
    ("vote", "a", BALLOT, "commit"), ("receive", "a", ("c", (1, ("c",)), (COMMIT,), ())),
    ("vote", "b", BALLOT, "abort"), ("receive", "b", ("c", (1, ("c",)), (ABORT,), ())),
)
# A chain: b needs c, and a needs b, so that a faulty c misleads b, and through b also a. d needs nobody else.
CHAIN = Network([("a", (1, ("b",))), ("b", (1, ("c",))), ("c", (1, ("c",))), ("d", (1, ("d",)))])


def is_form(network, value):
    """Whether a value has the form of a step of a node."""
    if type(value) is not tuple or not value or type(value[0]) is not str:
        return False
    if len(value) != {"vote": 4, "receive": 3}.get(value[0]):
        return False
    return type(value[1]) is str and value[1] in network.node_names()


def outcome(network, faulty, steps):
    """What the steps lead to, worked out by the model beside a session; None if a session cannot perform them."""
    session, model = Session(network, faulty), Model(network, faulty)
    for step in steps:
        if not is_form(network, step):
            return None
        try:
            getattr(session, step[0])(*step[1:])
        except MootError:
            return None
        getattr(model, step[0])(*step[1:])
    return model


def voted_in(model):
    return {statement for mine in model.nodes.values() for statement in mine.votes}


def node_is_misled(model, node):
    return not set(model.nodes[node].accepts) <= voted_in(model)


def has_split(model):
    accepted = [(name, statement) for name, mine in model.nodes.items() for statement in mine.accepts]
    return any(one != other and first[0] == second[0] and first[1] != second[1]
               for (one, first), (other, second) in itertools.combinations(accepted, 2))


def attack_by_words(network, faulty, steps):
    """[56] for a sequence of any values."""
    model = outcome(network, faulty, steps)
    if len(steps) > 200 or model is None:
        return False
    return has_split(model) or any(node_is_misled(model, name) for name in model.nodes)


def misleads_by_words(network, faulty, node, steps):
    model = outcome(network, faulty, steps)
    return len(steps) <= 200 and model is not None and node_is_misled(model, node)


def confirms_by_words(network, faulty, node, steps):
    model = outcome(network, faulty, steps)
    if len(steps) > 200 or model is None:
        return False
    if any(step[0] == "receive" and step[2][0] in faulty for step in steps):
        return False
    return len(model.nodes[node].confirms) > 0


def small_cases(seed, times):
    """Drawn networks of 0 to 6 nodes, each with all its node sets."""
    chance = random.Random(seed)
    for network in (TRIO, FOUR, PAIR, APART, CHAIN, Network()):
        for faulty in subsets(network.node_names()):
            yield chance, network, faulty
    for size in (1, 2, 3, 4, 5, 6):
        for _ in range(times):
            network = drawn_network(chance, size)
            for faulty in subsets(network.node_names()):
                yield chance, network, faulty


def one_entry_changed(steps):
    """Steps in which one entry of one step is another value."""
    others = ("a", "b", "c", "z", "", "vote", "receive", None, 1, True, (), [], ["a"], (2, "x"), (True, "x"), [1, "x"],
              "commit", "abort", ("c", (1, ("c",)), (COMMIT,), ()), ("a", (2, ("a", "b", "c")), (), ()))
    for at, step in enumerate(steps):
        for place, value in itertools.product(range(len(step)), others):
            yield (*steps[:at], (*step[:place], value, *step[place + 1:]), *steps[at + 1:])


def otherwise_changed(steps):
    """Steps of which one is left out, moved, repeated, put in twice, or written in another way."""
    for at, step in enumerate(steps):
        rest = (*steps[:at], *steps[at + 1:])
        yield rest
        yield (*steps, step)
        for place in range(len(steps)):
            yield (*rest[:place], step, *rest[place:])
        for value in (list(step), step[:-1], (*step, step[-1]), step[1:], (step,), (), None, "vote", step[0], [], 0):
            yield (*steps[:at], value, *steps[at + 1:])


def padding(count, node):
    """That many votes of a node on other ballots than the one of the examples."""
    ballots = ((number, letter + end) for number in range(7) for letter in "abcdefgh" for end in "abcdefgh")
    return tuple(("vote", node, ballot, "abort") for ballot in itertools.islice(ballots, count))


class AttackTest(RaisingTestCase):

    def test_example(self):
        found = attack(PAIR, ["b"])
        self.assertTrue(attack_by_words(PAIR, ["b"], found))
        self.assertIs(is_attack(PAIR, ["b"], EXAMPLE), True)

    def test_none_exactly_if_the_set_is_tolerated(self):
        kinds = []
        for chance, network, faulty in small_cases(101, 14):
            found = attack(network, faulty)
            self.assertEqual(found is None, direct.tolerates(network, faulty))
            kinds.append(tolerance(network, faulty)[0])
            if found is not None:
                self.assertIsInstance(found, tuple)
                self.assertLessEqual(len(found), 200)
                self.assertTrue(attack_by_words(network, faulty, found))
                self.assertIs(is_attack(network, faulty, found), True)
                self.assertIs(is_attack(network, faulty, list(found)), True)
        for kind in ("tolerated", "dependent", "disjoint"):
            self.assertGreater(kinds.count(kind), 30, kind)

    def test_both_kinds(self):
        model = outcome(CHAIN, ["c"], attack(CHAIN, ["c"]))
        self.assertEqual(voted_in(model), set())
        model = outcome(TRIO, ["c"], attack(TRIO, ["c"]))
        self.assertTrue(has_split(model))
        self.assertEqual([name for name in model.nodes if node_is_misled(model, name)], [])

    def test_what_is_tolerated(self):
        for network, faulty in ((TRIO, ()), (FOUR, ["a"]), (PAIR, ("b", "a", "b")), (Network(), ())):
            self.assertIsNone(attack(network, faulty))

    def test_arguments(self):
        self.assertTrue(attack_by_words(PAIR, ["b"], attack(faulty=["b"], network=PAIR)))
        for network, faulty in ((TRIO, ["c", "c"]), (FOUR, ["b", "a", "b"]), (CHAIN, ["c", "d"]), (FOUR, [])):
            found = self.assert_unchanged(attack, network, faulty)
            self.assertEqual(found is None, direct.tolerates(network, faulty))
        self.assert_unknown(attack, {"network": FOUR}, {"faulty": "set"})
        self.assert_unknown_without_nodes(attack, {}, ["faulty"])

    def test_two_networks_in_turn(self):
        for _ in range(2):
            self.assertIsNone(attack(FOUR, ["a"]))
            self.assertTrue(attack_by_words(TRIO, ["a"], attack(TRIO, ["a"])))


class IsAttackTest(RaisingTestCase):

    def test_example(self):
        self.assertIs(is_attack(TRIO, (), []), False)

    def test_both_kinds_as_tuple_and_as_list(self):
        for network, faulty, steps in ((PAIR, ["b"], EXAMPLE), (TRIO, ("c", "c"), SPLIT)):
            self.assertIs(is_attack(network, faulty, tuple(steps)), True)
            self.assertIs(is_attack(network, faulty, list(steps)), True)
            self.assertIs(is_attack(network, faulty, ()), False)

    def test_an_answer_for_which_an_honest_node_voted(self):
        steps = (("receive", "a", ("b", (1, ("b",)), (), (COMMIT,))),)
        self.assertIs(is_attack(CHAIN, ["b"], steps), True)
        vote = ("vote", "d", BALLOT, "commit")
        self.assertIs(is_attack(CHAIN, ["b"], (vote, *steps)), False)
        self.assertIs(is_attack(CHAIN, ["b"], (*steps, vote)), False)
        self.assertIs(is_attack(CHAIN, ["b"], (("vote", "d", BALLOT, "abort"), *steps)), True)
        self.assertIs(is_attack(CHAIN, ["b"], (("vote", "d", (2, "x"), "commit"), *steps)), True)
        # The vote of a itself counts too, but not an acceptance.
        self.assertIs(is_attack(CHAIN, ["b"], (("vote", "a", BALLOT, "commit"), *steps)), False)
        self.assertIs(is_attack(CHAIN, ["b"], (("vote", "a", BALLOT, "abort"), *steps)), True)

    def test_two_answers_need_one_ballot(self):
        apart = (("vote", "a", BALLOT, "commit"), ("vote", "b", BALLOT, "abort"))
        self.assertIs(is_attack(APART, (), apart), True)
        self.assertIs(is_attack(APART, (), apart[:1]), False)
        for other in ((2, "x"), (1, "y")):
            self.assertIs(is_attack(APART, (), (apart[0], ("vote", "b", other, "abort"))), False)
            self.assertIs(is_attack(APART, (), (apart[0], ("vote", "a", other, "abort"))), False)
        self.assertIs(is_attack(APART, (), (apart[0], ("vote", "b", BALLOT, "commit"))), False)

    def test_votes_for_different_answers_are_no_attack(self):
        self.assertIs(is_attack(TRIO, ["c"], SPLIT[:3]), False)
        self.assertIs(is_attack(TRIO, ["c"], (SPLIT[0], SPLIT[2])), False)

    def check_changed(self, network, faulty, changes):
        answers = []
        for steps in changes:
            expected = attack_by_words(network, faulty, steps)
            self.assertIs(is_attack(network, faulty, steps), expected, steps)
            self.assertIs(is_attack(network, faulty, list(steps)), expected, steps)
            answers.append(expected)
        return answers

    def test_one_entry_changed(self):
        answers = self.check_changed(TRIO, ["c"], one_entry_changed(SPLIT))
        self.assertEqual({True, False}, set(answers))
        self.assertEqual({True, False}, set(self.check_changed(PAIR, ["b"], one_entry_changed(EXAMPLE))))

    def test_steps_left_out_moved_repeated_or_written_otherwise(self):
        self.assertEqual({True, False}, set(self.check_changed(TRIO, ["c"], otherwise_changed(SPLIT))))
        self.assertEqual({True, False}, set(self.check_changed(PAIR, ["b"], otherwise_changed(EXAMPLE))))

    def test_drawn_attacks_changed(self):
        answers = []
        for chance, network, faulty in drawn_cases(102, range(2, 6), 12, (0.2, 0.4)):
            steps = attack(network, faulty)
            if steps is not None:
                changes = [*one_entry_changed(steps), *otherwise_changed(steps)]
                answers += self.check_changed(network, faulty, chance.sample(changes, min(40, len(changes))))
        self.assertGreater(answers.count(True), 50)
        self.assertGreater(answers.count(False), 50)

    def test_drawn_steps(self):
        answers = []
        for chance, network, faulty in drawn_cases(103, range(2, 6), 40, (0.3, 0.5)):
            session = Session(network, faulty)
            steps = []
            for _ in range(20):
                step = drawn_step(chance, session, [BALLOT, (2, "x")])
                if step is not None:
                    getattr(session, step[0])(*step[1])
                    steps.append((step[0], *step[1]))
            answers += self.check_changed(network, faulty, [steps])
        self.assertGreater(answers.count(True), 10)
        self.assertGreater(answers.count(False), 10)

    def test_steps_that_raise(self):
        message = EXAMPLE[0][2]
        for step in (
            ("receive", "b", message), ("receive", "a", ("a", (1, ("b",)), (), ())), ("vote", "b", BALLOT, "commit"),
            ("vote", "z", BALLOT, "commit"), ("receive", "z", message), ("vote", "a", (7, "x"), "commit"),
            ("vote", "a", BALLOT, "commit"), ("vote", "a", (2, "x"), "yes"), ("vote", "a", [2, "x"], "commit"),
            ("vote", "a", (True, "y"), "commit"), ("receive", "a", list(message)), ("receive", "a", None),
        ):
            self.assertIs(is_attack(PAIR, ["b"], (*EXAMPLE, step)), False, step)
        self.assertIs(is_attack(PAIR, ["b"], (*EXAMPLE, ("vote", "a", (2, "x"), "commit"))), True)

    def test_messages_that_honest_nodes_did_not_send(self):
        steps = (*SPLIT, ("receive", "a", ("b", (2, ("a", "b", "c")), (COMMIT,), ())))
        self.assertIs(is_attack(TRIO, ["c"], steps), False)
        steps = (*SPLIT, ("receive", "a", ("b", (2, ("a", "b", "c")), (ABORT,), ())))
        self.assertIs(is_attack(TRIO, ["c"], steps), True)

    def test_invalid_ballots_answers_and_messages(self):
        for ballot in (*BROKEN_BALLOTS.values(), None, [], COMMIT):
            self.assertIs(is_attack(PAIR, ["b"], (*EXAMPLE, ("vote", "a", ballot, "commit"))), False)
        for answer in (*OTHER_VALUES, "Commit"):
            self.assertIs(is_attack(PAIR, ["b"], (*EXAMPLE, ("vote", "a", (2, "x"), answer))), False)
        for message in (*ANY_VALUES, *BROKEN_MESSAGES.values()):
            self.assertIs(is_attack(TRIO, ["c"], (*SPLIT, ("receive", "a", message))), False)

    def test_nodes_of_every_kind(self):
        for node in (*OTHER_VALUES, "z", "ab", ["a"], ("a",), "b"):
            self.assertIs(is_attack(PAIR, ["b"], (("receive", node, EXAMPLE[0][2]),)), False, node)
            self.assertIs(is_attack(PAIR, ["b"], (*EXAMPLE, ("vote", node, (2, "x"), "commit"))), False, node)

    def test_words_of_every_kind(self):
        for word in (*OTHER_VALUES, "vote", "received", "Receive", "nominate", "copy", "message_of", ["receive"]):
            self.assertIs(is_attack(PAIR, ["b"], ((word, *EXAMPLE[0][1:]),)), False, word)

    def test_values_of_every_kind(self):
        for value in (*ANY_VALUES, EXAMPLE[0], "vote", list(EXAMPLE[0]), (list(EXAMPLE[0]),), ((EXAMPLE[0],),)):
            self.assertIs(is_attack(PAIR, ["b"], value), False, value)

    def test_200_and_201_steps(self):
        for form in (tuple, list):
            self.assertIs(is_attack(PAIR, ["b"], form((*padding(199, "a"), *EXAMPLE))), True)
            self.assertIs(is_attack(PAIR, ["b"], form((*padding(200, "a"), *EXAMPLE))), False)
            self.assertIs(is_attack(PAIR, ["b"], form((*EXAMPLE, *EXAMPLE * 199))), True)
            self.assertIs(is_attack(PAIR, ["b"], form(EXAMPLE * 201)), False)

    def test_arguments(self):
        self.assertIs(is_attack(steps=EXAMPLE, faulty=["b"], network=PAIR), True)
        self.assert_unchanged(is_attack, TRIO, ["c", "c"], list(SPLIT))
        for steps in (EXAMPLE, None, (), 7):
            self.assert_unknown(is_attack, {"network": FOUR, "steps": steps}, {"faulty": "set"})
            self.assert_unknown_without_nodes(is_attack, {"steps": steps}, ["faulty"])


class EachNodeTest(RaisingTestCase):
    """[7], [59] and [60] for each honest node."""

    def check_node(self, network, faulty, node):
        dependent = node in dependent_nodes(network, faulty)
        misleading = mislead(network, faulty, node)
        alone = confirm_alone(network, faulty, node)
        self.assertEqual((misleading is None, alone is None), (not dependent, dependent))
        found = misleading if dependent else alone
        self.assertIsInstance(found, tuple)
        self.assertLessEqual(len(found), 200)
        by_words = misleads_by_words if dependent else confirms_by_words
        self.assertTrue(by_words(network, faulty, node, found))
        for steps in (found, list(found)):
            self.assertIs(misleads(network, faulty, node, steps), dependent)
            self.assertIs(confirms_alone(network, faulty, node, steps), not dependent)
        return dependent

    def test_exactly_one_of_the_two(self):
        answers = []
        for chance, network, faulty in small_cases(104, 6):
            for node in direct.honest_nodes(network, faulty):
                answers.append(self.check_node(network, faulty, node))
        self.assertGreater(answers.count(True), 100)
        self.assertGreater(answers.count(False), 100)

    def test_dependent_by_a_direct_check(self):
        # No quorum of honest nodes alone contains the node exactly if it can be misled.
        for chance, network, faulty in drawn_cases(105, range(1, 7), 12, (0.2, 0.5)):
            honest = direct.honest_nodes(network, faulty)
            inside = [nodes for nodes in direct.quorums(network) if set(nodes) <= set(honest)]
            for node in honest:
                alone = any(node in nodes for nodes in inside)
                self.assertEqual(mislead(network, faulty, node) is None, alone)
                self.assertEqual(confirm_alone(network, faulty, node) is not None, alone)

    def test_examples(self):
        self.assertIs(misleads(PAIR, ["b"], "a", attack(PAIR, ["b"])), True)
        self.assertIsNone(confirm_alone(PAIR, ["b"], "a"))

    def test_a_chain(self):
        self.assertEqual([mislead(CHAIN, ["c"], node) is None for node in "abd"], [False, False, True])
        self.assertEqual([confirm_alone(CHAIN, ["c"], node) is None for node in "abd"], [True, True, False])

    def test_without_faulty_nodes(self):
        for network in (TRIO, FOUR, PAIR, APART, CHAIN):
            for node in network.node_names():
                self.assertIs(self.check_node(network, (), node), False)

    def test_only_the_given_node_counts(self):
        # In these steps b is misled, but not a or d; and only d confirms.
        steps = (("receive", "b", ("c", (1, ("c",)), (), (COMMIT,))), ("vote", "d", (2, "x"), "commit"))
        self.assertEqual([misleads(CHAIN, ["c"], node, steps) for node in "abd"], [False, True, False])
        self.assertIs(is_attack(CHAIN, ["c"], steps), True)
        steps = (("vote", "d", (2, "x"), "commit"),)
        self.assertEqual([confirms_alone(CHAIN, ["c"], node, steps) for node in "abd"], [False, False, True])

    def test_a_statement_for_which_an_honest_node_voted(self):
        steps = mislead(CHAIN, ["c"], "b")
        statement = steps[-1][2][3][0]
        self.assertIs(misleads(CHAIN, ["c"], "b", (*steps, ("vote", "d", *statement))), False)
        self.assertIs(misleads(CHAIN, ["c"], "b", (("vote", "d", *statement), *steps)), False)
        other = [answer for answer in ANSWERS if answer != statement[1]][0]
        self.assertIs(misleads(CHAIN, ["c"], "b", (("vote", "d", statement[0], other), *steps)), True)

    def test_two_answers_do_not_mislead(self):
        self.assertIs(is_attack(TRIO, ["c"], SPLIT), True)
        for node in "ab":
            self.assertIs(misleads(TRIO, ["c"], node, SPLIT), False)

    def test_accepting_is_not_confirming(self):
        steps = (("vote", "a", BALLOT, "commit"), ("vote", "b", BALLOT, "commit"),
                 ("receive", "a", ("b", (2, ("a", "b", "c")), (COMMIT,), ())))
        self.assertIs(confirms_alone(TRIO, ["c"], "a", steps), False)
        more = (("receive", "b", ("a", (2, ("a", "b", "c")), (COMMIT,), (COMMIT,))),
                ("receive", "a", ("b", (2, ("a", "b", "c")), (COMMIT,), (COMMIT,))))
        self.assertIs(confirms_alone(TRIO, ["c"], "b", (*steps, more[0])), True)
        self.assertIs(confirms_alone(TRIO, ["c"], "a", (*steps, more[0])), False)
        self.assertIs(confirms_alone(TRIO, ["c"], "a", (*steps, *more)), True)

    def test_a_message_from_a_faulty_node(self):
        steps = confirm_alone(TRIO, ["c"], "a")
        message = ("c", (1, ("c",)), (), ())
        for receiver in "ab":
            for at in (0, 1, len(steps)):
                changed = (*steps[:at], ("receive", receiver, message), *steps[at:])
                self.assertIs(confirms_alone(TRIO, ["c"], "a", changed), False)
        # Without faulty nodes the same message is one of an honest node, and harmless if it was sent.
        steps = confirm_alone(TRIO, (), "a")
        message = ("c", (2, ("a", "b", "c")), (), ())
        self.assertIs(confirms_alone(TRIO, (), "a", (("receive", "a", message), *steps)), True)

    def test_confirming_with_the_help_of_faulty_nodes(self):
        told = ("c", (1, ("c",)), (COMMIT,), (COMMIT,))
        steps = (("vote", "a", BALLOT, "commit"), ("receive", "a", told))
        self.assertTrue(outcome(TRIO, ["c"], steps).nodes["a"].confirms)
        self.assertIs(confirms_alone(TRIO, ["c"], "a", steps), False)

    def test_changed_steps(self):
        answers = []
        for chance, network, faulty in drawn_cases(106, range(2, 6), 12, (0.2, 0.4)):
            for node in direct.honest_nodes(network, faulty):
                steps = mislead(network, faulty, node) or confirm_alone(network, faulty, node)
                changes = [*one_entry_changed(steps), *otherwise_changed(steps)]
                for changed in chance.sample(changes, min(15, len(changes))):
                    one = misleads_by_words(network, faulty, node, changed)
                    other = confirms_by_words(network, faulty, node, changed)
                    self.assertIs(misleads(network, faulty, node, changed), one)
                    self.assertIs(confirms_alone(network, faulty, node, changed), other)
                    answers.append((one, other))
        for answer in ((True, False), (False, True), (False, False)):
            self.assertGreater(answers.count(answer), 30)

    def test_values_of_every_kind(self):
        for value in (*ANY_VALUES, EXAMPLE[0], list(EXAMPLE[0]), [list(EXAMPLE[0])], "receive"):
            self.assertIs(misleads(PAIR, ["b"], "a", value), False, value)
            self.assertIs(confirms_alone(APART, ["b"], "a", value), False, value)

    def test_200_and_201_steps(self):
        vote = ("vote", "a", BALLOT, "commit")
        for form in (tuple, list):
            self.assertIs(misleads(PAIR, ["b"], "a", form((*padding(199, "a"), *EXAMPLE))), True)
            self.assertIs(misleads(PAIR, ["b"], "a", form((*padding(200, "a"), *EXAMPLE))), False)
            self.assertIs(confirms_alone(APART, ["b"], "a", form((vote, *padding(199, "a")))), True)
            self.assertIs(confirms_alone(APART, ["b"], "a", form((vote, *padding(200, "a")))), False)

    def test_unknown_nodes_come_first(self):
        for call, more in ((mislead, {}), (confirm_alone, {}), (misleads, {"steps": None}), (misleads, {"steps": ()}),
                           (confirms_alone, {"steps": 7}), (confirms_alone, {"steps": EXAMPLE})):
            self.assert_unknown(call, {"network": FOUR, **more}, {"faulty": "set", "node": "name"})

    def test_faulty_nodes(self):
        for call, more in ((mislead, ()), (confirm_alone, ()), (misleads, (None,)), (misleads, (EXAMPLE,)),
                           (confirms_alone, (7,)), (confirms_alone, ((),))):
            for faulty in (["b"], ("a", "b"), ["b", "c", "b"], ("a", "b", "c")):
                self.assert_raises(FaultyNode, {"name": "b"}, call, TRIO, faulty, "b", *more)

    def test_arguments(self):
        self.assertTrue(misleads_by_words(PAIR, ["b"], "a", mislead(node="a", faulty=["b"], network=PAIR)))
        self.assertTrue(confirms_by_words(TRIO, ["b"], "a", confirm_alone(node="a", network=TRIO, faulty=["b"])))
        self.assertIs(misleads(steps=EXAMPLE, node="a", faulty=["b"], network=PAIR), True)
        self.assertIs(confirms_alone(steps=(), node="a", faulty=["b"], network=PAIR), False)
        for network, faulty, node in ((CHAIN, ["c", "c"], "a"), (TRIO, ["c"], "b"), (FOUR, [], "d")):
            steps = self.assert_unchanged(mislead, network, faulty, node)
            self.assert_unchanged(misleads, network, faulty, node, list(steps or ()))
            steps = self.assert_unchanged(confirm_alone, network, faulty, node)
            self.assert_unchanged(confirms_alone, network, faulty, node, list(steps or ()))

    def test_drawn_sets_in_any_order_with_duplicates(self):
        chance = random.Random(107)
        for _ in range(30):
            network = drawn_network(chance, 5)
            faulty = drawn_set(chance, network.node_names(), 0.4)
            plain = tuple(sorted(set(faulty)))
            self.assertEqual(attack(network, faulty) is None, attack(network, plain) is None)
            for node in direct.honest_nodes(network, faulty):
                self.check_node(network, faulty, node)


class NamesTest(unittest.TestCase):

    def test_long_names(self):
        network = Network([("abcdefgh", (1, ("zzzzzzzz",))), ("zzzzzzzz", (1, ("abcdefgh",)))])
        steps = attack(network, ["zzzzzzzz"])
        self.assertTrue(attack_by_words(network, ["zzzzzzzz"], steps))
        self.assertIs(misleads(network, ["zzzzzzzz"], "abcdefgh", steps), True)


if __name__ == "__main__":
    unittest.main()
