"""Networks, requirements and direct checks of requirements that several tests use."""

import itertools
import random

from oathmoot.networks import Network

TRIO = Network([(name, (2, ("a", "b", "c"))) for name in "abc"])
FOUR = Network([(name, (3, ("a", "b", "c", "d"))) for name in "abcd"])
PAIR = Network([("a", (1, ("b",))), ("b", (1, ("a",)))])
APART = Network([(name, (1, ("a", "b"))) for name in "ab"])

# Values of every kind that a parameter for any value accepts, none of them a name or a requirement.
OTHER_VALUES = (
    None, True, False, 0, 1, 2, -1, 10 ** 29, "", " ", "A", "a b", "1(a)", (), [], (1,), [1], ((),), ([],),
    (1, 2), ("a", "b"), ["a", "b"], ("a",), ["a"], (1, None), (None, ("a",)), (None, None), (1, ()), (1, ((),)),
    (("a",), 1), (1, ("a",), 1), (1, "a", "b"), (1, ("a",), ("b",)), [1, ("a",)], [1, ["a"]], (1, ["a"]),
    (1, "a"), (1, "ab"), "1a", ("1", ("a",)), ((1,), ("a",)), (1, (("a",),)), (1, (1,)), (1, (True,)), (1, (None,)),
)


def nested(value, depth):
    """A value inside that many tuples."""
    for _ in range(depth):
        value = (value,)
    return value


# Each rule of a requirement broken alone. As the only fault inside an outer requirement they are wrong, too.
BROKEN_REQUIREMENTS = {
    "count 0": (0, ("a", "b")),
    "count -1": (-1, ("a", "b")),
    "count one too many": (3, ("a", "b")),
    "count one too many of one": (2, ("a",)),
    "count True": (True, ("a", "b")),
    "count False": (False, ("a", "b")),
    "count None": (None, ("a", "b")),
    "count a string": ("1", ("a", "b")),
    "count a tuple": ((1,), ("a", "b")),
    "count a list": ([1], ("a", "b")),
    "count huge": (10 ** 29, ("a", "b")),
    "a list in place of the requirement": [1, ("a", "b")],
    "a list in place of the parts": (1, ["a", "b"]),
    "a string in place of the parts": (1, "ab"),
    "None in place of the parts": (1, None),
    "a number in place of the parts": (1, 2),
    "a duplicate name": (1, ("a", "a")),
    "a duplicate name apart": (2, ("a", "b", "a")),
    "no part": (1, ()),
    "no part and count 0": (0, ()),
    "an empty name": (1, ("a", "")),
    "a name that is too long": (1, ("a", "abcdefghi")),
    "a name with a capital": (1, ("a", "B")),
    "a name with a digit": (1, ("a", "b2")),
    "a name with a line feed": (1, ("a", "b\n")),
    "a number for a name": (1, ("a", 7)),
    "True for a name": (1, ("a", True)),
    "None for a name": (1, ("a", None)),
    "a list for a name": (1, ("a", ["b"])),
    "a tuple for a name": (1, ("a", ("b",))),
    "an empty tuple for a name": (1, ("a", ())),
    "one value": (1,),
    "three values": (1, ("a", "b"), 1),
    "swapped": (("a", "b"), 1),
    "13 different names": (1, tuple("abcdefghijklm")),
    "9 different names": (1, tuple("abcdefghi")),
}

# Requirements of every form, up to the limits.
REQUIREMENTS = (
    (1, ("a",)),
    (1, ("a", "b")),
    (2, ("b", "a")),
    (1, ("a", "b", "c")),
    (2, ("a", "b", "c")),
    (3, ("c", "a", "b")),
    (2, ("d", "b", "a", "c")),
    (1, ((1, ("a",)),)),
    (1, ((2, ("b", "a")),)),
    (1, ("a", (1, ("a",)))),
    (2, ("a", (1, ("a",)))),
    (2, ("a", (1, ("b", "c")))),
    (1, ("a", (2, ("b", "c")))),
    (2, ("b", (1, ("a", "c")))),
    (2, ("a", "b", (1, ("c", "d")))),
    (2, ("a", (1, ("a", "b")), (2, ("a", "b")))),
    (1, ((1, ("a", "b")), (1, ("b", "a")))),
    (2, ((1, ("a", "b")), (1, ("b", "a")))),
    (2, ((2, ("a", "b", "c")), (1, ("c", "d")), "e")),
    (3, ("node", "n", (2, ("nodes", "n", "abcdefgh")), (1, ("zzzzzzzz", "node")))),
    (1, tuple("hgfedcba")),
    (4, tuple("abcdefgh")),
    (8, tuple("abcdefgh")),
    (2, ((2, ("a", "b", "c", "d")), (3, ("c", "d", "e", "f")), (1, ("e", "f", "g", "h")))),
    (2, ((2, ("a", "b", "c", "d", "e", "f")), (5, ("f", "e", "d", "c", "b", "a")))),
    (3, ("a", "b", "c", "d", (2, ("a", "b", "c", "d")), (3, ("e", "f", "g", "h")))),
    (6, tuple((count, pair) for count in (1, 2) for pair in (("a", "b"), ("b", "c"), ("c", "a")))),
    (12, tuple("abcdefgh") + tuple((1, (name,)) for name in "abcd")),
)


def drawn_requirement(chance, names):
    """A requirement over the names, mostly with inner requirements, within the limits."""
    while True:
        parts = []
        for _ in range(chance.randint(1, 5)):
            if chance.random() < 0.6:
                part = chance.choice(names)
            else:
                inner = chance.sample(names, chance.randint(1, min(4, len(names))))
                part = (chance.randint(1, len(inner)), tuple(inner))
            if part not in parts:
                parts.append(part)
        if sum(1 if isinstance(part, str) else len(part[1]) for part in parts) <= 12:
            return (chance.randint(1, len(parts)), tuple(parts))


def drawn_network(chance, size):
    """A network of this size: drawn requirements, or every node with the same kind of majority."""
    names = "abcdefgh"[:size]
    if size > 1 and chance.random() < 0.4:
        return Network([(name, (chance.randint(size // 2, size) or 1, tuple(names))) for name in names])
    return Network([(name, drawn_requirement(chance, names)) for name in names])


def drawn_set(chance, names, share=0.5):
    """A subset of the names, each with this chance, in any order and perhaps with duplicates."""
    nodes = [name for name in names if chance.random() < share]
    nodes = nodes + [chance.choice(nodes) for _ in range(chance.randint(0, 2)) if nodes]
    chance.shuffle(nodes)
    return chance.choice((list, tuple))(nodes)


def drawn_cases(seed, sizes, times, shares=(0, 0.2, 0.5)):
    """For each of the sizes that many drawn networks, each with a drawn set of faulty nodes."""
    chance = random.Random(seed)
    for size in sizes:
        for _ in range(times):
            network = drawn_network(chance, size)
            yield chance, network, drawn_set(chance, network.node_names(), chance.choice(shares))


def subsets(names):
    """All subsets of the names: by size, those of one size in ascending order."""
    names = sorted(names)
    return [nodes for size in range(len(names) + 1) for nodes in itertools.combinations(names, size)]


def written_names(requirement):
    """The different names of a requirement, read off its written form."""
    text = repr(requirement)
    for sign in "(),'0123456789":
        text = text.replace(sign, " ")
    return sorted(set(text.split()))


def is_satisfied(requirement, nodes):
    """Whether the nodes satisfy a requirement: each inner requirement is worked out as a number of parts."""
    count, parts = requirement
    met = 0
    for part in parts:
        if isinstance(part, tuple):
            met += sum(name in nodes for name in part[1]) >= part[0]
        else:
            met += part in nodes
    return met >= count


def is_blocked(requirement, nodes):
    """Whether the names that are not in the set fail to satisfy the requirement."""
    return not is_satisfied(requirement, set(written_names(requirement)) - set(nodes))


def minimal_by_check(requirement, holds):
    """The sets of names of the requirement for which `holds`, but not for a proper subset of them."""
    sets = subsets(written_names(requirement))
    good = {nodes for nodes in sets if holds(requirement, nodes)}
    return tuple(
        nodes for nodes in sets
        if nodes in good and not any(part in good for part in subsets(nodes) if part != nodes)
    )
