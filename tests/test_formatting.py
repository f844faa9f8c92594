"""Promises [86] to [89], and [2] and [4] as far as they bear on formatting.py."""

import random
import unittest

from oathmoot.errors import InvalidLine, InvalidText, MootError, UnknownNode
from oathmoot.formatting import (
    format_event, format_message, format_network, format_requirement, parse_event, parse_message, parse_network,
    parse_requirement,
)
from oathmoot.networks import Network
from oathmoot.requirements import is_requirement
from oathmoot.sessions import Session
from tests.cases import RaisingTestCase
from tests.model import drawn_message, drawn_session
from tests.samples import APART, FOUR, PAIR, REQUIREMENTS, TRIO, drawn_cases, drawn_network, drawn_requirement

BALLOT = (1, "x")
COMMIT, ABORT = (BALLOT, "commit"), (BALLOT, "abort")
MESSAGE = ("a", (1, ("b",)), (COMMIT,), ())
TEXT = "a | 1(b) | 1 x commit | -"
BALLOTS = [(0, "x"), (1, "x"), (1, "y"), (6, "abcdefgh")]
EVENTS = {
    "voted a 1 x commit": ("voted", "a", BALLOT, "commit"),
    "received c " + TEXT: ("received", "c", MESSAGE),
    "accepted a 1 x commit support a,c": ("accepted", "a", BALLOT, "commit", ("support", ("a", "c"))),
    "accepted b 0 yy abort blocking a": ("accepted", "b", (0, "yy"), "abort", ("blocking", ("a",))),
    "confirmed d 6 x abort a,b,cc": ("confirmed", "d", (6, "x"), "abort", ("a", "b", "cc")),
}
# Texts that stand for nothing at all.
NOTHING = ("", " ", "\n", "-", "a", "1", "()", "a\n", "none", ",", "|", ";", "1()", "1(", "(a)", "~", "x" * 2000,
           "(" * 2000, "1(" * 1000, ")" * 2000, "9" * 2000, "a," * 1000, "1 " * 1000, " | " * 600, "; " * 1000)
SIGNS = "ab1029(),:;| -\n~A"


def written_by_hand(requirement):
    """[86] by its words."""
    count, parts = requirement
    return str(count) + "(" + ",".join(part if isinstance(part, str) else written_by_hand(part) for part in parts) + ")"


def one_sign_changed(chance, text, times):
    """Texts with one character removed, added, replaced or doubled, or two exchanged."""
    for _ in range(times):
        at = chance.randrange(len(text) + 1)
        sign = chance.choice(SIGNS)
        yield text[:at] + text[at + 1:]
        yield text[:at] + sign + text[at:]
        yield text[:at] + sign + text[at + 1:]
        yield text[:at] + text[at:at + 1] + text[at:]
        yield text[:at] + text[at + 1:at + 2] + text[at:at + 1] + text[at + 2:]


class FormattingTestCase(RaisingTestCase):

    def check_changed(self, chance, text, show, parse, is_right, times=10):
        """What is parsed is formatted as that very text; everything else is refused. Return how many were parsed."""
        parsed = 0
        for changed in one_sign_changed(chance, text, times):
            try:
                found = parse(changed)
            except InvalidText as error:
                self.assertEqual(error.text, changed)
                self.assertIs(type(error), InvalidText)
                continue
            self.assertEqual(show(found), changed)
            self.assertTrue(is_right(found), found)
            parsed += 1
        return parsed

    def assert_invalid(self, parse, texts):
        for text in texts:
            self.assert_raises(InvalidText, {"text": text}, parse, text)
            self.assert_raises(InvalidText, {"text": text}, parse, text=text)


class RequirementTest(FormattingTestCase):

    def test_example(self):
        requirement = (2, ("a", "b", (1, ("c", "d"))))
        self.assertEqual(format_requirement(requirement), "2(a,b,1(c,d))")
        self.assertEqual(parse_requirement("2(a,b,1(c,d))"), requirement)

    def test_there_and_back(self):
        chance = random.Random(161)
        names = ["a", "bb", "node", "abcdefgh", "z", "c"]
        for requirement in (*REQUIREMENTS, *[drawn_requirement(chance, names) for _ in range(200)]):
            text = format_requirement(requirement)
            self.assertEqual(text, written_by_hand(requirement))
            self.assertEqual(repr(parse_requirement(text)), repr(requirement))

    def test_counts_of_two_digits(self):
        parts = tuple("abcdefgh") + tuple((1, (name,)) for name in "abcd")
        for count in (9, 10, 11, 12):
            text = str(count) + "(a,b,c,d,e,f,g,h,1(a),1(b),1(c),1(d))"
            self.assertEqual(format_requirement((count, parts)), text)
            self.assertEqual(parse_requirement(text), (count, parts))
        self.assert_invalid(parse_requirement, ["13(a,b,c,d,e,f,g,h,1(a),1(b),1(c),1(d))"])

    def test_wrong_texts(self):
        self.assert_invalid(parse_requirement, (
            *NOTHING, "1(a", "1a)", "1 (a)", "1( a)", "1(a )", " 1(a)", "1(a) ", "1(a)\n", "1(a, b)", "1(a,b,)",
            "1(,a)",
            "1(a,,b)", "01(a)", "1(01(a))", "0(a)", "2(a)", "3(a,b)", "-1(a)", "+1(a)", "1.0(a)", "1_0(a)", "1(a)(b)",
            "1(a))", "1((a))", "(1(a))", "1(A)", "1(a1)", "1(abcdefghi)", "1(a,a)", "1(1(a),1(a))", "1(1(a,a))",
            "1(1(1(a)))", "1(a,1(b,1(c)))", "1(1(a)b)", "1(b1(a))", "1(1(a)", "1(1(a)),", "1(a),1(b)", "one(a)",
            "1(a,b,c,d,e,f,g,h,i)", "1[a]", "1{a}", "(1, ('a',))", "1(a;b)", "1(a|b)", "1", "a", "1(1)", "1(2(a))",
            "1(0(a))", "1(1())", "2(a),1(b)", "1(a),b", "1(1(a),b",
        ))
        self.assert_invalid(parse_requirement, ["9" * 30 + "(a)", "0" * 1900 + "1(a)", "1" * 1900 + "(a)"])

    def test_too_many_names(self):
        parts = ",".join("1(" + ",".join("abcdefgh"[:size]) + ")" for size in (8, 4))
        self.assertTrue(is_requirement(parse_requirement("1(" + parts + ")")))
        self.assert_invalid(parse_requirement, ["1(a," + parts + ")", "1(" + parts.replace("h", "i,h") + ")"])

    def test_deep_nesting(self):
        for depth in (3, 10, 40, 600):
            self.assert_invalid(parse_requirement, ["1(" * depth + "a" + ")" * depth])

    def test_one_sign_changed(self):
        chance = random.Random(162)
        parsed = 0
        for requirement in (*REQUIREMENTS, *[drawn_requirement(chance, "abcde") for _ in range(60)]):
            text = format_requirement(requirement)
            parsed += self.check_changed(chance, text, format_requirement, parse_requirement, is_requirement)
        self.assertGreater(parsed, 100)

    def test_arguments(self):
        self.assertEqual(format_requirement(requirement=(1, ("a",))), "1(a)")
        self.assertEqual(parse_requirement(text="1(a)"), (1, ("a",)))


class NetworkTest(FormattingTestCase):

    def test_example(self):
        self.assertEqual(format_network(PAIR), "a: 1(b)\nb: 1(a)")
        self.assertTrue(parse_network("a: 1(b)\nb: 1(a)") == PAIR)

    def test_the_network_without_nodes(self):
        self.assertEqual(format_network(Network()), "")
        found = parse_network("")
        self.assertIs(type(found), Network)
        self.assertEqual(found.as_rows(), ())

    def test_there_and_back(self):
        chance = random.Random(163)
        for network in (TRIO, FOUR, APART, *[drawn_network(chance, size) for size in range(1, 9) for _ in range(8)]):
            text = format_network(network)
            rows = [f"{name}: {written_by_hand(requirement)}" for name, requirement in network.as_rows()]
            self.assertEqual(text, "\n".join(rows))
            self.assertTrue(parse_network(text) == network)

    def test_names_in_ascending_order(self):
        network = Network([("b", (1, ("b",))), ("aa", (1, ("b", "a"))), ("a", (1, ("a",)))])
        self.assertEqual(format_network(network), "a: 1(a)\naa: 1(b,a)\nb: 1(b)")
        self.assertTrue(parse_network("a: 1(a)\naa: 1(b,a)\nb: 1(b)") == network)

    def test_the_first_line_that_is_wrong(self):
        good = ["a: 1(b)", "b: 1(a)", "c: 1(c)"]
        for wrong in ("", " ", "b", "b:", "b: ", "b:1(a)", "b : 1(a)", "b:  1(a)", " b: 1(a)", "b: 1(a) ", "b: a",
                      "B: 1(a)", "b: 1(A)", "b: 2(a)", "b: 1(a", "b: 01(a)", ": 1(a)", "bb b: 1(a)", "b: 1(a): 1(a)",
                      "abcdefghi: 1(a)", "b\t: 1(a)", "-", "b; 1(a)", "b: 1(a,a)", "1(a): b", "b: 1(a)\r"):
            for at in range(3):
                lines = [*good[:at], wrong, *good[at + 1:]]
                self.assert_raises(InvalidLine, {"index": at}, parse_network, "\n".join(lines))
                if len(lines) > at + 1:
                    lines[-1] = "?"
                    self.assert_raises(InvalidLine, {"index": at}, parse_network, "\n".join(lines))

    def test_names_out_of_order_and_twice(self):
        for text, index in (("b: 1(b)\na: 1(a)", 1), ("a: 1(a)\na: 1(a)", 1), ("a: 1(a)\nc: 1(c)\nb: 1(b)", 2),
                            ("b: 1(b)\na: 1(a)\n?", 1), ("a: 1(a)\nb: 1(b)\na: 1(a)", 2), ("b: 1(b)\naa: 1(b)", 1)):
            self.assert_raises(InvalidLine, {"index": index}, parse_network, text)

    def test_line_feeds_too_many(self):
        for text, index in (("\n", 0), ("\n\n", 0), ("\na: 1(a)", 0), ("a: 1(a)\n", 1), ("a: 1(a)\n\nb: 1(b)", 1),
                            ("a: \n1(a)", 0), ("a: 1(b)\nb: 1(a)\n", 2)):
            self.assert_raises(InvalidLine, {"index": index}, parse_network, text)

    def test_wrong_lines_come_before_unknown_nodes(self):
        self.assert_raises(InvalidLine, {"index": 1}, parse_network, "a: 1(z)\n?")
        self.assert_raises(UnknownNode, {"name": "z"}, parse_network, "a: 1(z)")
        self.assert_raises(UnknownNode, {"name": "c"}, parse_network, "a: 1(a)\nb: 2(z,1(c,q))\nd: 1(b,aa)")
        self.assert_raises(UnknownNode, {"name": "aa"}, parse_network, text="a: 1(b)\nb: 1(b,aa)")

    def test_texts_that_stand_for_nothing(self):
        for text in NOTHING[1:]:
            self.assert_raises(InvalidLine, {"index": 0}, parse_network, text)

    def test_one_sign_changed(self):
        chance = random.Random(164)
        kinds = []
        for _ in range(30):
            text = format_network(drawn_network(chance, chance.randint(1, 5)))
            for changed in one_sign_changed(chance, text, 10):
                try:
                    found = parse_network(changed)
                except MootError as error:
                    kinds.append(type(error))
                    if isinstance(error, InvalidLine):
                        # The lines before are right, apart from names that are not nodes.
                        before = "\n".join(changed.split("\n")[:error.index])
                        try:
                            parse_network(before)
                        except UnknownNode:
                            pass
                        self.assertLess(error.index, len(changed.split("\n")))
                    continue
                self.assertEqual(format_network(found), changed)
                kinds.append(Network)
        self.assertEqual(set(kinds), {InvalidLine, UnknownNode, Network})

    def test_arguments(self):
        self.assertEqual(format_network(network=PAIR), "a: 1(b)\nb: 1(a)")
        self.assertTrue(parse_network(text="a: 1(a)") == Network([("a", (1, ("a",)))]))


class MessageTest(FormattingTestCase):

    def is_right(self, message):
        """A message in some network."""
        sender, requirement, votes, accepts = message
        return is_requirement(requirement) and all(list(part) == sorted(set(part)) for part in (votes, accepts))

    def test_example(self):
        self.assertEqual(format_message(MESSAGE), TEXT)
        self.assertEqual(parse_message(TEXT), MESSAGE)

    def test_several_statements(self):
        votes = (((0, "x"), "abort"), COMMIT, ((6, "yy"), "abort"))
        message = ("node", (1, ("a", (1, ("b",)))), votes, (ABORT, COMMIT))
        text = "node | 1(a,1(b)) | 0 x abort; 1 x commit; 6 yy abort | 1 x abort; 1 x commit"
        self.assertEqual(format_message(message), text)
        self.assertEqual(parse_message(text), message)
        self.assertEqual(format_message(("a", (1, ("a",)), (), ())), "a | 1(a) | - | -")
        self.assertEqual(parse_message("a | 1(a) | - | -"), ("a", (1, ("a",)), (), ()))
        self.assertEqual(parse_message("z | 1(q) | - | 1 x abort"), ("z", (1, ("q",)), (), (ABORT,)))

    def test_there_and_back(self):
        for chance, network, faulty in drawn_cases(165, range(1, 7), 30):
            message = drawn_message(chance, network, chance.choice(network.node_names()), BALLOTS)
            self.assertEqual(repr(parse_message(format_message(message))), repr(message))

    def test_wrong_texts(self):
        self.assert_invalid(parse_message, (
            *NOTHING, "a | 1(b) | -", "a | 1(b) | - | - | -", "a | 1(b) | - | - ", " a | 1(b) | - | -",
            "a | 1(b) | - |  -", "a |1(b) | - | -", "a | 1(b) | - | ", "a | 1(b) |  | -", "a | 1(b) | -- | -",
            "A | 1(b) | - | -", " | 1(b) | - | -", "abcdefghi | 1(b) | - | -", "a | 1(B) | - | -", "a | b | - | -",
            "a | 2(b) | - | -", "a | 01(b) | - | -", "a | - | - | -", "- | 1(b) | - | -", "a|1(b)|-|-",
            "a | 1(b) | - | -\n", "\na | 1(b) | - | -", "a,b | 1(b) | - | -", "a | 1(b) | none | -",
        ))

    def test_wrong_statements(self):
        for part in ("1 x", "1 x commit ", " 1 x commit", "1  x commit", "1 x  commit", "x 1 commit", "1 x Commit",
                     "1 x yes", "7 x commit", "9 x commit", "10 x commit", "01 x commit", "-1 x commit", "+1 x commit",
                     "1 X commit", "1 abcdefghi commit", "1 x1 commit", "1 x commit;", "; 1 x commit",
                     "1 x commit;1 y commit", "1 x commit;  1 y commit", "1 x commit ; 1 y commit",
                     "1 x commit, 1 y abort",
                     "1 x commit; 1 x commit", "1 x commit; 1 x abort", "1 y abort; 1 x abort", "2 x abort; 1 x abort",
                     "1 x commit; -", "-; 1 x commit", "1 x commit; ", "1 x commit 1 y commit", "1 x commit\n", "1 x -",
                     "1 a abort; 1 b abort; 1 aa abort", "(1, x) commit", "1 x commit\n; 1 y commit", "1  commit"):
            self.assert_invalid(parse_message, [f"a | 1(b) | {part} | -", f"a | 1(b) | - | {part}",
                                                f"a | 1(b) | 0 x abort | {part}"])

    def test_numbers_from_0_to_6(self):
        for number in range(7):
            found = parse_message(f"a | 1(b) | {number} x abort | -")
            self.assertEqual(repr(found[2]), repr((((number, "x"), "abort"),)))

    def test_one_sign_changed(self):
        parsed = 0
        for chance, network, faulty in drawn_cases(166, range(1, 6), 12):
            text = format_message(drawn_message(chance, network, chance.choice(network.node_names()), BALLOTS))
            parsed += self.check_changed(chance, text, format_message, parse_message, self.is_right)
        self.assertGreater(parsed, 100)

    def test_arguments(self):
        self.assertEqual(format_message(message=MESSAGE), TEXT)
        self.assertEqual(parse_message(text=TEXT), MESSAGE)

    def test_many_statements(self):
        ballots = sorted((number, value + "abcdefg") for number in range(7) for value in "abcdefgh")
        statements = tuple((ballot, "commit") for ballot in ballots)
        message = ("a", (1, ("b",)), statements, statements)
        text = format_message(message)
        self.assertGreater(len(text), 2000)
        self.assertEqual(parse_message(text), message)


class EventTest(FormattingTestCase):

    def test_example(self):
        event = ("accepted", "a", (1, "x"), "commit", ("support", ("a", "c")))
        self.assertEqual(format_event(event), "accepted a 1 x commit support a,c")

    def test_every_kind(self):
        for text, event in EVENTS.items():
            self.assertEqual(format_event(event), text)
            self.assertEqual(repr(parse_event(text)), repr(event))

    def test_there_and_back(self):
        words = set()
        for chance, network, faulty in drawn_cases(167, range(1, 7), 12):
            session = drawn_session(chance, Session(network, faulty), BALLOTS[:3], 30)
            for event in session.all_events():
                self.assertEqual(repr(parse_event(format_event(event))), repr(event))
                words.add(event[4][0] if event[0] == "accepted" else event[0])
        self.assertEqual(words, {"voted", "received", "support", "blocking", "confirmed"})

    def test_names_may_be_any_names(self):
        for text in ("voted zzzzzzzz 1 x abort", "received a a | 1(q) | - | -", "accepted a 1 x abort blocking q,z",
                     "confirmed a 1 x abort b"):
            self.assertEqual(format_event(parse_event(text)), text)

    def test_wrong_texts(self):
        self.assert_invalid(parse_event, (
            *NOTHING, "voted", "voted a", "voted a 1 x", "voted a 1 x commit a", "voted a 1 x commit ",
            " voted a 1 x abort", "voted  a 1 x commit", "voted a  1 x commit", "Voted a 1 x commit",
            "vote a 1 x commit", "voted A 1 x commit", "voted a 7 x commit", "voted a 01 x commit", "voted a 1 x yes",
            "voted a 1 x commit\n", "voted a,b 1 x commit",
            "voted a 1 x commit support a", "voted - 1 x commit", "voted abcdefghi 1 x commit", "voted 1 x commit",
        ))

    def test_wrong_messages(self):
        self.assert_invalid(parse_event, (
            "received", "received a", "received a ", "received a -", "received " + TEXT, "received A " + TEXT,
            "received c  " + TEXT, "received c " + TEXT + " ", "received c d " + TEXT, "received c " + TEXT + " | -",
            "receive c " + TEXT, "received c " + TEXT.replace("1 x", "8 x"), "received c " + TEXT.replace("(b)", "()"),
            "received c\n" + TEXT, "received c " + TEXT + "\n", "received c 1 x commit",
        ))

    def test_wrong_node_sets(self):
        for nodes in ("", "-", "NONE", "A", "a,", ",a", "a,,b", "b,a", "a,a", "a,b,a", "a, b", "a b", "a;b", "a,b ",
                      "a,b\n", "abcdefghi", "a,B", "(a)", "1", "b,aa", "a,c,b"):
            self.assert_invalid(parse_event, [
                f"accepted a 1 x commit support {nodes}", f"accepted a 1 x commit blocking {nodes}",
                f"confirmed a 1 x commit {nodes}",
            ])

    def test_wrong_reasons(self):
        for reason in ("a", "a,b", "support", "support ", "Support a", "supported a", "block a", "blocking",
                       "support  a",
                       " support a", "support a b", "support a blocking b", "a support", "support,a"):
            self.assert_invalid(parse_event, [f"accepted a 1 x commit {reason}"])
        self.assert_invalid(parse_event, [
            "confirmed a 1 x commit support a", "accepted a 1 x commit", "confirmed a 1 x commit", "confirmed a 1 x a",
            "accepted a 1 x support a", "confirm a 1 x commit a", "accept a 1 x commit support a",
            "accepted a 1 x abort a",
        ])

    def test_one_sign_changed(self):
        chance = random.Random(168)

        def is_right(event):
            return event[0] in ("voted", "received", "accepted", "confirmed") and len(event) in (3, 4, 5)

        parsed = 0
        for text in EVENTS:
            parsed += self.check_changed(chance, text, format_event, parse_event, is_right, 100)
        self.assertGreater(parsed, 50)

    def test_arguments(self):
        self.assertEqual(format_event(event=("voted", "a", BALLOT, "abort")), "voted a 1 x abort")
        self.assertEqual(parse_event(text="voted a 1 x abort"), ("voted", "a", BALLOT, "abort"))


if __name__ == "__main__":
    unittest.main()
