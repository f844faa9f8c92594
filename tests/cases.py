"""What several test cases have in common."""

import copy
import unittest

from oathmoot.errors import MootError, UnknownNode
from oathmoot.networks import Network

# Strings that are not nodes of the networks in the tests; most of them are not even names.
NOT_NODES = ("z", "zz", "", " ", "A", "a ", "a\n", "a,b", "abcdefghi", "x" * 2000)


class RaisingTestCase(unittest.TestCase):

    def assert_raises(self, error, fields, call, *arguments, **named):
        """The call raises exactly this class, with these values in its fields."""
        with self.assertRaises(MootError) as caught:
            call(*arguments, **named)
        self.assertIs(type(caught.exception), error)
        found = {field: getattr(caught.exception, field) for field in fields}
        self.assertEqual(repr(found), repr(fields))

    def assert_unknown(self, call, arguments, named):
        """[20]: each of the named node sets is examined, in this order, and before everything else.

        `named` gives for each parameter whether it takes one name or a node set, and `arguments` what else to pass.
        """
        parameters = list(named)
        for at, parameter in enumerate(parameters):
            for name in NOT_NODES:
                wrong = name if named[parameter] == "name" else ["a", name, "a", "y"]
                given = {earlier: "a" if named[earlier] == "name" else ("a",) for earlier in parameters[:at]}
                later = {after: "Q" if named[after] == "name" else ["Q", "z"] for after in parameters[at + 1:]}
                self.assert_raises(
                    UnknownNode, {"name": name}, call, **{**arguments, **given, parameter: wrong, **later}
                )

    def assert_unknown_without_nodes(self, call, arguments, named):
        """[20] in the network without nodes: no name is a node."""
        for parameter in named:
            given = {other: () for other in named if other != parameter}
            for nodes in (["a"], ("a", "b"), ["a", "a"]):
                self.assert_raises(
                    UnknownNode, {"name": "a"}, call, **{**arguments, "network": Network(), **given, parameter: nodes}
                )

    def assert_unchanged(self, call, *arguments, **named):
        """The call returns the same for equal arguments and changes none of them."""
        before = copy.deepcopy((arguments, named))
        first = call(*arguments, **named)
        self.assertEqual((arguments, named), before)
        self.assertEqual(repr(call(*arguments, **named)), repr(first))
        return first

    def assert_by_name_only(self, call, *arguments):
        """The last argument cannot be passed by position."""
        with self.assertRaises(TypeError):
            call(*arguments)
