"""Names and requirements: which sets of nodes must agree before a node is convinced."""

from oathmoot.nodesets import minimal_sets, node_set, subsets

LETTERS = "abcdefghijklmnopqrstuvwxyz"
LONGEST_NAME = 8
MOST_NAMES = 12
MOST_DIFFERENT_NAMES = 8


def is_name(value):
    """Whether a value is a name: 1 to 8 letters from a to z."""
    if not isinstance(value, str):
        return False
    if not 1 <= len(value) <= LONGEST_NAME:
        return False
    return all([letter in LETTERS for letter in value])


def is_whole_number(value):
    """Whether a value is an integer; True and False are none here, although Python counts them as 1 and 0."""
    return isinstance(value, int) and not isinstance(value, bool)


def is_counted_tuple(value):
    """Whether a value is a tuple of a count and a tuple of at least that many parts, whatever the parts are."""
    if not isinstance(value, tuple) or len(value) != 2:
        return False
    count, parts = value
    if not is_whole_number(count) or not isinstance(parts, tuple):
        return False
    return 1 <= count <= len(parts)


def has_duplicates(parts):
    """Whether two of the parts are equal. Each part is a name or a simple requirement."""
    return len(set(parts)) < len(parts)


def is_simple_requirement(value):
    """Whether a value is a count of names, as far as the limits on the whole requirement do not matter."""
    if not is_counted_tuple(value):
        return False
    names = value[1]
    return all([is_name(name) for name in names]) and not has_duplicates(names)


def is_requirement(value):
    """Whether a value is a requirement."""
    if not is_counted_tuple(value):
        return False
    parts = value[1]
    if not all([is_name(part) or is_simple_requirement(part) for part in parts]):
        return False
    if has_duplicates(parts):
        return False
    names = names_with_repetition(value)
    return len(names) <= MOST_NAMES and len(set(names)) <= MOST_DIFFERENT_NAMES


def names_with_repetition(requirement):
    """The names of a requirement as often and in the order as they are written."""
    names = []
    for part in requirement[1]:
        if isinstance(part, str):
            names.append(part)
        else:
            names.extend(names_with_repetition(part))
    return names


def names_in(requirement):
    """The names that occur in a requirement, as a node set."""
    return node_set(names_with_repetition(requirement))


def satisfies_part(part, nodes):
    """Whether a set of names satisfies a part of a requirement."""
    if isinstance(part, str):
        return part in nodes
    return satisfies(part, nodes)


def satisfies(requirement, nodes):
    """Whether a set of names satisfies a requirement."""
    count, parts = requirement
    satisfied = [part for part in parts if satisfies_part(part, nodes)]
    return len(satisfied) >= count


def blocks(requirement, nodes):
    """Whether a set of names blocks a requirement."""
    outside = [name for name in names_in(requirement) if name not in nodes]
    return not satisfies(requirement, outside)


def dual(requirement):
    """The requirement that exactly those sets satisfy that block the given one."""
    count, parts = requirement
    duals = [part if isinstance(part, str) else dual(part) for part in parts]
    return (len(parts) - count + 1, tuple(duals))


def minimal_satisfying(requirement):
    """All sets that satisfy a requirement and have no proper subset that does."""
    sets = subsets(names_in(requirement))
    return minimal_sets([nodes for nodes in sets if satisfies(requirement, nodes)])


def minimal_blocking(requirement):
    """All sets that block a requirement and have no proper subset that does."""
    sets = subsets(names_in(requirement))
    return minimal_sets([nodes for nodes in sets if blocks(requirement, nodes)])
