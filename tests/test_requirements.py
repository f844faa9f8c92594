"""Promises [8] to [15], and [2] and [3] as far as they bear on requirements.py."""

import copy
import itertools
import unittest

from oathmoot.requirements import (
    blocks, dual, is_name, is_requirement, minimal_blocking, minimal_satisfying, names_in, satisfies,
)
from tests.samples import (
    BROKEN_REQUIREMENTS, OTHER_VALUES, REQUIREMENTS, is_blocked, is_satisfied, minimal_by_check, nested, subsets,
    written_names,
)


class NamesTest(unittest.TestCase):

    def test_names_of_all_lengths(self):
        for length in range(1, 9):
            self.assertIs(is_name("abcdefgh"[:length]), True)
            self.assertIs(is_name("z" * length), True)

    def test_every_letter_alone(self):
        for code in range(128):
            text = chr(code)
            self.assertIs(is_name(text), "a" <= text <= "z", repr(text))

    def test_other_lengths(self):
        for length in (0, 9, 10, 2000):
            self.assertIs(is_name("a" * length), False)

    def test_other_characters_at_every_place(self):
        for sign in "AZ019 _-.,()`{\n\t~":
            for at in range(5):
                text = "abcd"[:at] + sign + "abcd"[at:]
                self.assertIs(is_name(text), False, repr(text))

    def test_line_feed_at_the_end(self):
        self.assertIs(is_name("a\n"), False)
        self.assertIs(is_name("abcdefg\n"), False)
        self.assertIs(is_name("\n"), False)

    def test_values_of_every_other_kind(self):
        for value in OTHER_VALUES + REQUIREMENTS + tuple(BROKEN_REQUIREMENTS.values()):
            self.assertIs(is_name(value), False, repr(value))

    def test_lists_of_letters(self):
        for value in (["a"], ("a",), [["a"]], ["a", "b"], ("a", "b"), nested("a", 39)):
            self.assertIs(is_name(value), False, repr(value))

    def test_by_name_of_the_parameter(self):
        self.assertIs(is_name(value="a"), True)


class RequirementsTest(unittest.TestCase):

    def test_example(self):
        self.assertIs(is_requirement((1, ["a"])), False)

    def test_requirements(self):
        for requirement in REQUIREMENTS:
            self.assertIs(is_requirement(requirement), True, repr(requirement))

    def test_each_broken_rule(self):
        for fault, value in BROKEN_REQUIREMENTS.items():
            self.assertIs(is_requirement(value), False, fault)

    def test_each_broken_rule_at_an_inner_requirement(self):
        for fault, value in BROKEN_REQUIREMENTS.items():
            for outer in ((1, (value,)), (1, ("c", value)), (2, (value, (1, ("c",))))):
                self.assertIs(is_requirement(outer), False, fault)

    def test_values_of_every_other_kind(self):
        for value in OTHER_VALUES:
            self.assertIs(is_requirement(value), False, repr(value))
            self.assertIs(is_requirement((1, ("c", value))), False, repr(value))
            self.assertIs(is_requirement((value, ("c",))), type(value) is int and value == 1, repr(value))
            self.assertIs(is_requirement((1, value)), value == ("a", "b") or value == ("a",), repr(value))

    def test_a_name_is_not_a_requirement(self):
        self.assertIs(is_requirement("a"), False)
        self.assertIs(is_requirement("ab"), False)

    def test_counts_up_to_the_number_of_parts(self):
        for parts in (("a",), ("a", "b", "c"), tuple("abcdefgh"), ("a", (1, ("a",)), (1, ("b", "c")))):
            for count in range(-2, 12):
                expected = 1 <= count <= len(parts)
                self.assertIs(is_requirement((count, parts)), expected)
            for count in range(-2, 7):
                if all(isinstance(part, str) for part in parts):
                    expected = 1 <= count <= len(parts)
                    self.assertIs(is_requirement((1, ((count, parts),))), expected)

    def test_the_count_refers_to_parts_not_to_names(self):
        self.assertIs(is_requirement((2, ((1, ("a", "b", "c")),))), False)
        self.assertIs(is_requirement((3, ("a", (1, ("b", "c"))))), False)

    def test_lists_at_every_place(self):
        for value in (
            [2, ("a", (1, ("b", "c")))], (2, ["a", (1, ("b", "c"))]), (2, ("a", [1, ("b", "c")])),
            (2, ("a", (1, ["b", "c"]))), (2, ("a", (1, (["b"], "c")))), (2, (["a"], (1, ("b", "c")))),
            ([2], ("a", (1, ("b", "c")))),
        ):
            self.assertIs(is_requirement(value), False, repr(value))
        self.assertIs(is_requirement((2, ("a", (1, ("b", "c"))))), True)

    def test_duplicate_parts(self):
        inner = (1, ("a", "b"))
        for parts in ((inner, inner), ("c", inner, "d", (1, ("a", "b"))), ("c", inner, "c")):
            self.assertIs(is_requirement((1, parts)), False, repr(parts))

    def test_parts_that_python_tells_apart(self):
        for parts in (
            ("a", (1, ("a",))),
            ((1, ("a", "b")), (1, ("b", "a"))),
            ((1, ("a", "b")), (2, ("a", "b"))),
            ("a", "b", (1, ("a", "b"))),
        ):
            self.assertIs(is_requirement((1, parts)), True, repr(parts))

    def test_true_beside_one(self):
        self.assertIs(is_requirement((1, ((1, ("a",)), (True, ("a",))))), False)
        self.assertIs(is_requirement((1, ((True, ("a",)),))), False)

    def test_nested_too_deep(self):
        simple = (1, ("a",))
        self.assertIs(is_requirement((1, (simple,))), True)
        self.assertIs(is_requirement((1, ((1, (simple,)),))), False)
        self.assertIs(is_requirement((1, ((1, ("b", simple)),))), False)
        self.assertIs(is_requirement((1, ("b", (2, (simple, "c"))))), False)
        value = simple
        for _ in range(18):
            value = (1, (value,))
        self.assertIs(is_requirement(value), False)
        self.assertIs(is_requirement(nested(simple, 36)), False)
        self.assertIs(is_requirement((1, nested("a", 38))), False)

    def test_twelve_names_with_repetition(self):
        four = tuple("abcd")
        twelve = (1, ((1, four), (2, four), (3, four)))
        self.assertIs(is_requirement(twelve), True)
        self.assertIs(is_requirement((1, twelve[1] + ("a",))), False)
        self.assertIs(is_requirement((1, ("a",) + twelve[1])), False)
        self.assertIs(is_requirement((1, ((1, four), (2, four), (3, four), (1, ("a",))))), False)
        self.assertIs(is_requirement((1, ((1, four), (2, four), (3, ("a", "b", "c", "d", "e"))))), False)
        self.assertIs(is_requirement((1, tuple((1, (name,)) for name in "abcdefgh") + four)), True)
        self.assertIs(is_requirement((1, tuple((1, (name,)) for name in "abcdefgh") + tuple("abcde"))), False)

    def test_twelve_different_parts(self):
        parts = tuple((1, (one, other)) for one, other in itertools.permutations("abc", 2))
        self.assertIs(is_requirement((6, parts)), True)
        self.assertIs(is_requirement((6, parts + ("a",))), False)

    def test_eight_different_names(self):
        self.assertIs(is_requirement((1, tuple("abcdefgh"))), True)
        self.assertIs(is_requirement((1, tuple("abcdefghi"))), False)
        self.assertIs(is_requirement((1, ((1, tuple("abcdefgh")),))), True)
        self.assertIs(is_requirement((1, ((1, tuple("abcdefghi")),))), False)
        self.assertIs(is_requirement((1, ("i", (1, tuple("abcdefgh"))))), False)
        self.assertIs(is_requirement((1, ("h", (1, tuple("abcdefgh"))))), True)
        self.assertIs(is_requirement((1, ((1, tuple("abcde")), (1, tuple("efgh"))))), True)
        self.assertIs(is_requirement((1, ((1, tuple("abcde")), (1, tuple("fghi"))))), False)

    def test_parts_with_the_longest_names(self):
        self.assertIs(is_requirement((1, ("abcdefgh",))), True)
        self.assertIs(is_requirement((1, ("abcdefghi",))), False)

    def test_by_name_of_the_parameter(self):
        self.assertIs(is_requirement(value=(1, ("a",))), True)

    def test_a_passed_list_is_not_changed(self):
        value = [1, ["a", ["b"]], ("c", ["d"])]
        before = copy.deepcopy(value)
        for check in (is_name, is_requirement):
            check(value)
            check((1, value))
        self.assertEqual(value, before)


class NamesInTest(unittest.TestCase):

    def test_example(self):
        self.assertEqual(names_in((2, ("b", (1, ("a", "c"))))), ("a", "b", "c"))

    def test_all_names_once_in_ascending_order(self):
        for requirement in REQUIREMENTS:
            self.assertEqual(names_in(requirement), tuple(written_names(requirement)))

    def test_names_are_compared_as_strings(self):
        self.assertEqual(names_in((1, ("b", "aa", "ab", "a", (1, ("ba", "a"))))), ("a", "aa", "ab", "b", "ba"))

    def test_by_name_of_the_parameter(self):
        self.assertEqual(names_in(requirement=(1, ("b", "a"))), ("a", "b"))


class SatisfyingAndBlockingTest(unittest.TestCase):

    def test_examples(self):
        self.assertIs(satisfies((2, ("a", "b", "c")), ["c", "a"]), True)
        self.assertIs(blocks((2, ("a", "b", "c")), ["a"]), False)

    def test_all_sets(self):
        for requirement in REQUIREMENTS:
            for nodes in subsets(written_names(requirement)):
                self.assertIs(satisfies(requirement, nodes), is_satisfied(requirement, nodes))
                self.assertIs(blocks(requirement, nodes), is_blocked(requirement, nodes))

    def test_sets_in_any_order_with_duplicates_as_tuples_and_lists(self):
        for requirement in ((2, ("a", "b", "c")), (2, ("a", (1, ("b", "c")))), (1, ((2, ("a", "b")), "c"))):
            for size in range(5):
                for nodes in itertools.product("abc", repeat=size):
                    expected = is_satisfied(requirement, nodes)
                    self.assertIs(satisfies(requirement, nodes), expected)
                    self.assertIs(satisfies(requirement, list(nodes)), expected)
                    expected = is_blocked(requirement, nodes)
                    self.assertIs(blocks(requirement, nodes), expected)
                    self.assertIs(blocks(requirement, list(nodes)), expected)

    def test_duplicates_count_once(self):
        self.assertIs(satisfies((2, ("a", "b", "c")), ["a", "a"]), False)
        self.assertIs(satisfies((3, ("a", "b", "c")), ("a", "b", "b", "a")), False)
        self.assertIs(blocks((2, ("a", "b", "c")), ("a", "a")), False)

    def test_other_names_have_no_effect(self):
        others = ("", "d", "ab", "A", "a ", "\n", "abc", "a,b", "x" * 2000)
        for requirement in ((1, ("a",)), (2, ("a", "b", "c")), (2, ("a", (2, ("b", "c"))))):
            for nodes in subsets("abc"):
                for more in (others + nodes, nodes + others, [*others, *nodes, *others]):
                    self.assertIs(satisfies(requirement, more), is_satisfied(requirement, nodes))
                    self.assertIs(blocks(requirement, more), is_blocked(requirement, nodes))
            self.assertIs(satisfies(requirement, others), False)
            self.assertIs(blocks(requirement, others), False)

    def test_the_empty_set_and_the_set_of_all_names(self):
        for requirement in REQUIREMENTS:
            for empty in ((), []):
                self.assertIs(satisfies(requirement, empty), False)
                self.assertIs(blocks(requirement, empty), False)
            self.assertIs(satisfies(requirement, written_names(requirement)), True)
            self.assertIs(blocks(requirement, written_names(requirement)), True)

    def test_a_name_that_occurs_several_times(self):
        requirement = (2, ("a", (1, ("a", "b")), (2, ("a", "b", "c"))))
        self.assertIs(satisfies(requirement, ["a"]), True)
        self.assertIs(satisfies(requirement, ["b"]), False)
        self.assertIs(satisfies(requirement, ["c", "b"]), True)
        self.assertIs(blocks(requirement, ["a"]), False)
        self.assertIs(blocks(requirement, ["b"]), False)
        self.assertIs(blocks(requirement, ["b", "a"]), True)
        self.assertIs(satisfies((2, ((1, ("a", "b")), (1, ("b", "a")))), ("b",)), True)

    def test_a_part_counts_once_however_many_of_its_names_are_there(self):
        requirement = (2, ("a", (1, ("b", "c", "d"))))
        self.assertIs(satisfies(requirement, ["b", "c", "d"]), False)
        self.assertIs(satisfies(requirement, ["d", "a"]), True)

    def test_by_names_of_the_parameters(self):
        self.assertIs(satisfies(nodes=["b"], requirement=(1, ("b",))), True)
        self.assertIs(blocks(nodes=["b"], requirement=(1, ("b",))), True)

    def test_a_passed_list_is_not_changed(self):
        nodes = ["c", "a", "z", "c"]
        for ask in (satisfies, blocks):
            ask((2, ("a", (1, ("b", "c")))), nodes)
            self.assertEqual(nodes, ["c", "a", "z", "c"])


class DualTest(unittest.TestCase):

    def test_example(self):
        self.assertEqual(dual((2, ("a", "b", (1, ("c", "d"))))), (2, ("a", "b", (2, ("c", "d")))))

    def test_counts_and_order_of_the_parts(self):
        self.assertEqual(dual((1, ("a",))), (1, ("a",)))
        self.assertEqual(dual((1, ("c", "a", "b"))), (3, ("c", "a", "b")))
        self.assertEqual(dual((2, ("c", "a", "b"))), (2, ("c", "a", "b")))
        self.assertEqual(dual((3, ("c", "a", "b"))), (1, ("c", "a", "b")))
        self.assertEqual(
            dual((1, ((3, ("f", "e", "d")), "b", (1, ("z", "y")), "a"))),
            (4, ((1, ("f", "e", "d")), "b", (2, ("z", "y")), "a")),
        )

    def test_the_dual_is_a_requirement_of_tuples(self):
        for requirement in REQUIREMENTS:
            self.assertIs(is_requirement(dual(requirement)), True)
            self.assertEqual(written_names(dual(requirement)), written_names(requirement))

    def test_the_dual_of_the_dual(self):
        for requirement in REQUIREMENTS:
            self.assertEqual(dual(dual(requirement)), requirement)

    def test_a_set_satisfies_the_dual_exactly_if_it_blocks(self):
        for requirement in REQUIREMENTS:
            other = dual(requirement)
            for nodes in subsets(written_names(requirement)):
                self.assertIs(is_satisfied(other, nodes), is_blocked(requirement, nodes))
                self.assertIs(satisfies(other, nodes), blocks(requirement, nodes))
                self.assertIs(blocks(other, nodes), satisfies(requirement, nodes))

    def test_by_name_of_the_parameter(self):
        self.assertEqual(dual(requirement=(1, ("a", "b"))), (2, ("a", "b")))


class MinimalSetsTest(unittest.TestCase):

    def test_examples(self):
        requirement = (2, ("a", (1, ("b", "c"))))
        self.assertEqual(minimal_satisfying(requirement), (("a", "b"), ("a", "c")))
        self.assertEqual(minimal_blocking(requirement), (("a",), ("b", "c")))

    def test_all_minimal_sets_and_no_others_in_order(self):
        for requirement in REQUIREMENTS:
            self.assertEqual(minimal_satisfying(requirement), minimal_by_check(requirement, is_satisfied))
            self.assertEqual(minimal_blocking(requirement), minimal_by_check(requirement, is_blocked))

    def test_every_requirement_of_few_parts(self):
        inner = [(count, names) for names in (("b", "a"), ("b", "c"), ("c", "d")) for count in (1, 2)]
        for size in (1, 2, 3):
            for parts in itertools.combinations(["d", "a", *inner], size):
                for count in range(1, size + 1):
                    requirement = (count, parts)
                    self.assertEqual(minimal_satisfying(requirement), minimal_by_check(requirement, is_satisfied))
                    self.assertEqual(minimal_blocking(requirement), minimal_by_check(requirement, is_blocked))

    def test_smaller_sets_come_first(self):
        requirement = (1, ("d", (2, ("b", "a")), (2, ("a", "c"))))
        self.assertEqual(minimal_satisfying(requirement), (("d",), ("a", "b"), ("a", "c")))
        self.assertEqual(minimal_blocking(requirement), (("a", "d"), ("b", "c", "d")))

    def test_four_of_eight(self):
        requirement = (4, tuple("hgfedcba"))
        self.assertEqual(minimal_satisfying(requirement), tuple(itertools.combinations("abcdefgh", 4)))
        self.assertEqual(minimal_blocking(requirement), tuple(itertools.combinations("abcdefgh", 5)))

    def test_each_set_of_the_one_kind_meets_each_of_the_other(self):
        for requirement in REQUIREMENTS:
            for one in minimal_satisfying(requirement):
                for other in minimal_blocking(requirement):
                    self.assertTrue(set(one) & set(other))

    def test_a_name_that_is_never_needed(self):
        self.assertEqual(minimal_satisfying((1, ("a", (2, ("a", "b"))))), (("a",),))
        self.assertEqual(minimal_blocking((1, ("a", (2, ("a", "b"))))), (("a",),))

    def test_tuples_are_returned(self):
        for minimal in (minimal_satisfying, minimal_blocking):
            sets = minimal((2, ("c", "b", "a")))
            self.assertIsInstance(sets, tuple)
            for nodes in sets:
                self.assertIsInstance(nodes, tuple)

    def test_by_name_of_the_parameter(self):
        self.assertEqual(minimal_satisfying(requirement=(1, ("b", "a"))), (("a",), ("b",)))
        self.assertEqual(minimal_blocking(requirement=(1, ("b", "a"))), (("a", "b"),))


if __name__ == "__main__":
    unittest.main()
