"""Sets of names, kept as ascending tuples, and the order in which several of them are returned."""


def node_set(names):
    """The names in ascending order without duplicates."""
    return tuple(sorted(set(names)))


def is_within(small, large):
    """Whether each name of the one set is in the other."""
    return all([name in large for name in small])


def names_outside(names, excluded):
    """Those of the names that are not in the other set, in the same order."""
    return tuple([name for name in names if name not in excluded])


def is_ascending(entries):
    """Whether each entry is greater than the one before it, so that there are no duplicates either."""
    return all([entries[at] < entries[at + 1] for at in range(len(entries) - 1)])


def set_order(nodes):
    """The key by which several node sets are sorted: by size, then as tuples."""
    return (len(nodes), nodes)


def subsets(names):
    """All subsets of an ascending tuple of names, in the order of `set_order`."""
    found = [()]
    for name in names:
        found = found + [(*nodes, name) for nodes in found]
    return tuple(sorted(found, key=set_order))


def minimal_sets(sets):
    """Those of the sets that contain no other of them; the sets come in the order of `set_order`."""
    kept = []
    for nodes in sets:
        # A set can contain smaller sets only, and of these the order has put all before it.
        if not any([is_within(smaller, nodes) for smaller in kept]):
            kept.append(nodes)
    return tuple(kept)
