"""Promises [40] and [41], and [2], [3] and [20] as far as they bear on messages.py."""

import itertools
import unittest

from oathmoot.messages import is_ballot, is_message, is_statement
from oathmoot.networks import Network
from oathmoot.requirements import is_requirement
from tests.cases import RaisingTestCase
from tests.samples import BROKEN_REQUIREMENTS, FOUR, OTHER_VALUES, PAIR, REQUIREMENTS, TRIO, nested

BALLOT = (1, "x")
COMMIT, ABORT = (BALLOT, "commit"), (BALLOT, "abort")
NEED = (2, ("a", "b", "c"))
MESSAGE = ("a", NEED, (COMMIT,), (COMMIT,))
# All statements on some ballots, in ascending order; numbers come before values, and "abort" before "commit".
STATEMENTS = (
    ((0, "x"), "abort"), ((0, "x"), "commit"), ((0, "y"), "abort"), ((1, "a"), "commit"), ((1, "aa"), "abort"),
    ((1, "b"), "abort"), ((2, "a"), "commit"), ((6, "a"), "abort"), ((6, "a"), "commit"),
)
# Values of every kind, none of which is a ballot, a statement or a message.
ANY_VALUES = (
    *[value for value in OTHER_VALUES if value not in ((1, "a"), (1, "ab"))], "x", "commit", nested("x", 40),
    nested([], 40), nested(BALLOT, 38), [nested([1], 38)],
    (BALLOT,), (COMMIT,), (COMMIT, ABORT), (MESSAGE,), NEED, "1 x", repr(BALLOT), repr(COMMIT), repr(MESSAGE),
    ((1, "x"), ("commit",)), ("a", "b", "c", "d"), (1, 2, 3, 4), ((), (), (), ()), ("a", (), (), ()),
)
BROKEN_BALLOTS = {
    "number -1": (-1, "x"), "number 7": (7, "x"), "number 8": (8, "x"), "number True": (True, "x"),
    "number False": (False, "x"), "number huge": (10 ** 29, "x"), "number -huge": (-10 ** 29, "x"),
    "number None": (None, "x"), "number a string": ("1", "x"), "number a tuple": ((1,), "x"),
    "number a list": ([1], "x"), "value empty": (1, ""), "value too long": (1, "abcdefghi"),
    "value with a capital": (1, "X"), "value with a digit": (1, "x1"), "value with a space": (1, "x "),
    "value with a line feed": (1, "x\n"), "value None": (1, None), "value True": (1, True), "value a number": (1, 1),
    "value a tuple": (1, ("x",)), "value a list": (1, ["x"]), "a list": [1, "x"], "one entry": (1,),
    "three entries": (1, "x", "x"), "swapped": ("x", 1), "nothing": (), "a string": "1x", "None": None,
}
BROKEN_STATEMENTS = {
    **{f"ballot: {fault}": (ballot, "commit") for fault, ballot in BROKEN_BALLOTS.items()},
    **{f"answer {answer!r}": (BALLOT, answer) for answer in (
        "", "Commit", "COMMIT", "commit ", "abort\n", "aborted", "yes", None, True, False, 0, 1, ("commit",), ["abort"],
    )},
    "a list": [BALLOT, "commit"], "one entry": (BALLOT,), "three entries": (BALLOT, "commit", "commit"),
    "swapped": ("commit", BALLOT), "flat": (1, "x", "commit"), "nothing": (), "a string": "commit", "None": None,
}
BROKEN_LISTS = {
    **{f"one statement, {fault}": (statement,) for fault, statement in BROKEN_STATEMENTS.items()},
    **{f"the second statement, {fault}": (((0, "a"), "abort"), statement)
       for fault, statement in BROKEN_STATEMENTS.items()},
    "a list": [COMMIT], "an empty list": [], "None": None, "a number": 0, "a string": "", "one statement": COMMIT,
    "twice": (COMMIT, COMMIT), "twice apart": (ABORT, COMMIT, ABORT), "answers out of order": (COMMIT, ABORT),
    "numbers out of order": (((2, "a"), "abort"), ((1, "b"), "abort")),
    "values out of order": (((1, "b"), "abort"), ((1, "a"), "commit")),
    "the last two out of order": (((0, "a"), "abort"), ((1, "b"), "abort"), ((1, "a"), "commit")),
}
BROKEN_MESSAGES = {
    **{f"votes: {fault}": ("a", NEED, votes, ()) for fault, votes in BROKEN_LISTS.items()},
    **{f"accepts: {fault}": ("a", NEED, (), accepts) for fault, accepts in BROKEN_LISTS.items()},
    **{f"sender {sender!r}": (sender, NEED, (), ()) for sender in (
        "z", "d", "", "A", "a ", "ab", None, 0, True, ("a",), ["a"], (),
    )},
    **{f"requirement: {fault}": ("a", requirement, (), ()) for fault, requirement in BROKEN_REQUIREMENTS.items()},
    "an unknown name in the requirement": ("a", (1, ("a", "z")), (), ()),
    "an unknown name in an inner requirement": ("a", (1, ("a", (1, ("b", "z")))), (), ()),
    "no requirement": ("a", None, (), ()), "a list": ["a", NEED, (), ()], "three entries": ("a", NEED, ()),
    "five entries": ("a", NEED, (), (), ()), "swapped": (NEED, "a", (), ()), "nothing": (),
}


class BallotTest(unittest.TestCase):

    def test_ballots(self):
        for number, value in itertools.product(range(7), ("x", "a", "abcdefgh", "zz")):
            self.assertIs(is_ballot((number, value)), True)

    def test_each_rule_broken_alone(self):
        for fault, value in BROKEN_BALLOTS.items():
            self.assertIs(is_ballot(value), False, fault)

    def test_any_value(self):
        for value in (*ANY_VALUES, COMMIT, MESSAGE):
            self.assertIs(is_ballot(value=value), False, value)


class StatementTest(unittest.TestCase):

    def test_statements(self):
        for statement in (*STATEMENTS, COMMIT, ABORT):
            self.assertIs(is_statement(statement), True)

    def test_each_rule_broken_alone(self):
        for fault, value in BROKEN_STATEMENTS.items():
            self.assertIs(is_statement(value), False, fault)

    def test_any_value(self):
        for value in (*ANY_VALUES, BALLOT, MESSAGE):
            self.assertIs(is_statement(value=value), False, value)


class MessageTest(RaisingTestCase):

    def test_example(self):
        self.assertIs(is_message(PAIR, ("a", (1, ("c",)), (), ())), False)

    def test_messages(self):
        for sender in "abc":
            for votes in ((), (COMMIT,), (ABORT,), (ABORT, COMMIT), STATEMENTS):
                for accepts in ((), (COMMIT,), (ABORT,), (ABORT, COMMIT), STATEMENTS[3:]):
                    self.assertIs(is_message(TRIO, (sender, NEED, votes, accepts)), True)

    def test_both_answers_of_a_ballot(self):
        self.assertIs(is_message(TRIO, ("a", NEED, (ABORT, COMMIT), ())), True)
        self.assertIs(is_message(TRIO, ("a", NEED, (), (ABORT, COMMIT))), True)
        self.assertIs(is_message(TRIO, ("a", NEED, (COMMIT,), (ABORT,))), True)

    def test_any_requirement_over_the_nodes(self):
        eight = Network([(name, (1, ("a",))) for name in "abcdefgh"])
        for requirement in REQUIREMENTS:
            names = [name for name in "abcdefgh" if f"'{name}'" in repr(requirement)]
            known = "node" not in repr(requirement)
            self.assertTrue(is_requirement(requirement))
            self.assertIs(is_message(eight, ("h", requirement, (), ())), known)
            self.assertIs(is_message(TRIO, ("a", requirement, (), ())), known and set(names) <= set("abc"))

    def test_the_network_counts(self):
        message = ("d", (1, ("a", "d")), (), ())
        for _ in range(2):
            self.assertIs(is_message(FOUR, message), True)
            self.assertIs(is_message(TRIO, message), False)
        self.assertIs(is_message(Network(), message), False)

    def test_all_sublists_of_statements(self):
        for size in range(4):
            for votes in itertools.permutations(STATEMENTS, size):
                good = all(one < other for one, other in itertools.pairwise(votes))
                self.assertIs(is_message(TRIO, ("a", NEED, votes, ())), good)
                self.assertIs(is_message(TRIO, ("a", NEED, (), votes)), good)

    def test_sixty_statements_and_more(self):
        for values in ("abcde", "abcdefgh"):
            statements = tuple(((number, value), answer)
                               for number in range(7) for value in values for answer in ("abort", "commit"))
            self.assertIs(is_message(TRIO, ("a", NEED, statements, ())), True)
            self.assertIs(is_message(TRIO, ("a", NEED, (), statements)), True)
            self.assertIs(is_message(TRIO, ("a", NEED, (), statements[::-1])), False)

    def test_each_rule_broken_alone(self):
        for fault, value in BROKEN_MESSAGES.items():
            self.assertIs(is_message(TRIO, value), False, fault)

    def test_any_value(self):
        for network in (TRIO, PAIR, Network()):
            for value in (*ANY_VALUES, BALLOT, COMMIT, (None, NEED, (), ()), ("a", NEED, [], [])):
                self.assertIs(is_message(network, value), False, value)

    def test_arguments(self):
        self.assertIs(is_message(value=MESSAGE, network=TRIO), True)
        value = ["a", (1, ["a"]), [COMMIT], []]
        self.assertIs(self.assert_unchanged(is_message, TRIO, value), False)

    def test_unknown_names_raise_nothing(self):
        for sender in ("z", "", "A" * 2000):
            self.assertIs(is_message(TRIO, (sender, (1, ("z",)), (), ())), False)


if __name__ == "__main__":
    unittest.main()
