"""Which sets of faulty nodes a network tolerates, and what follows from it."""

from oathmoot.errors import DisjointQuorums
from oathmoot.intersection import intersection
from oathmoot.nodesets import is_within, minimal_sets, names_outside, node_set, subsets
from oathmoot.quorums import first_removable, removal_order


def honest_nodes(network, faulty):
    """The nodes outside a set whose names are checked."""
    network.check_nodes(faulty)
    return names_outside(network.node_names(), faulty)


def tolerance(network, faulty):
    """("tolerated", certificate), ("dependent", name) or ("disjoint", one, other)."""
    dependent = first_removable(network, honest_nodes(network, faulty), ())
    if dependent is not None:
        return ("dependent", dependent)
    found = intersection(network, faulty=faulty)
    if found[0] == "disjoint":
        return found
    return ("tolerated", found[1])


def tolerates(network, faulty):
    """Whether a network tolerates a node set."""
    return tolerance(network, faulty)[0] == "tolerated"


def tolerated_sets(network):
    """All node sets that a small network tolerates."""
    return tuple([nodes for nodes in subsets(network.node_names()) if tolerates(network, nodes)])


def minimal_containing(sets, nodes):
    """Those of the sets that contain the nodes and contain no other such set."""
    return minimal_sets([larger for larger in sets if is_within(nodes, larger)])


def minimal_tolerated(network, faulty):
    """The smallest tolerated sets of a small network that contain a node set."""
    network.check_nodes(faulty)
    return minimal_containing(tolerated_sets(network), faulty)


def check_intersection(network):
    """Raise DisjointQuorums if two quorums have no node in common although no node is faulty."""
    found = intersection(network)
    if found[0] == "disjoint":
        raise DisjointQuorums(found[1], found[2])


def closure(network, faulty):
    """The only smallest tolerated set of a small network that contains a node set."""
    network.check_nodes(faulty)
    check_intersection(network)
    return minimal_tolerated(network, faulty)[0]


def fatal_sets(network):
    """The smallest node sets of a small network whose closure contains all nodes."""
    check_intersection(network)
    names = network.node_names()
    tolerated = tolerated_sets(network)
    return minimal_sets([nodes for nodes in subsets(names) if minimal_containing(tolerated, nodes) == (names,)])


def meets_all(nodes, sets):
    """Whether a node set has a node in common with each of the sets."""
    return all([any([name in nodes for name in met]) for met in sets])


def guardian_sets(network):
    """The smallest node sets of a small network that have a node in common with every fatal set."""
    # Who meets the smallest fatal sets meets all of them, because the others contain these.
    fatal = fatal_sets(network)
    return minimal_sets([nodes for nodes in subsets(network.node_names()) if meets_all(nodes, fatal)])


def repairs(network, faulty):
    """The pairs of a node and another outer count of its requirement with which the network tolerates the set."""
    network.check_nodes(faulty)
    found = []
    for name, requirement in network.as_rows():
        present, parts = requirement
        for count in range(1, len(parts) + 1):
            if count != present and tolerates(network.with_node(name, (count, parts)), faulty):
                found.append((name, count))
    return tuple(found)


def dependent_nodes(network, faulty):
    """The honest nodes that cannot be convinced without faulty ones."""
    return node_set(removal_order(network, honest_nodes(network, faulty)))
