"""Quorums: sets of nodes in which each node is convinced by the others."""

from oathmoot.nodesets import minimal_sets, names_outside, node_set, subsets
from oathmoot.requirements import satisfies


def can_be_removed(network, name, nodes, faulty):
    """Whether a set of nodes, to which the faulty ones agree, does not satisfy the requirement of a node."""
    return not satisfies(network.requirement_of(name), (*nodes, *faulty))


def first_removable(network, nodes, faulty):
    """The first of the nodes that can be removed from them, None if none can."""
    for name in nodes:
        if can_be_removed(network, name, nodes, faulty):
            return name
    return None


def start_of_removal(network, nodes, faulty):
    """The nodes of a set that are not faulty, after the names in both sets were checked."""
    network.check_nodes(nodes)
    network.check_nodes(faulty)
    return names_outside(node_set(nodes), faulty)


def is_quorum(network, nodes, *, faulty=()):
    """Whether a node set is a quorum."""
    honest = start_of_removal(network, nodes, faulty)
    if len(honest) == 0 or len(honest) < len(node_set(nodes)):
        return False
    return first_removable(network, honest, faulty) is None


def removal_order(network, nodes, *, faulty=()):
    """The nodes that are removed if each time the smallest one goes that can be removed."""
    remaining = start_of_removal(network, nodes, faulty)
    order = []
    name = first_removable(network, remaining, faulty)
    while name is not None:
        order.append(name)
        remaining = names_outside(remaining, [name])
        name = first_removable(network, remaining, faulty)
    return tuple(order)


def is_removal_order(network, nodes, order, *, faulty=()):
    """Whether any value is an order in which some of the nodes can be removed."""
    remaining = start_of_removal(network, nodes, faulty)
    if not isinstance(order, (tuple, list)):
        return False
    for name in order:
        # An entry of another kind than a name is not among the remaining nodes either.
        if name not in remaining or not can_be_removed(network, name, remaining, faulty):
            return False
        remaining = names_outside(remaining, [name])
    return True


def largest_quorum(network, nodes, *, faulty=()):
    """The largest quorum that a node set contains, () if it contains none."""
    honest = start_of_removal(network, nodes, faulty)
    return names_outside(honest, removal_order(network, honest, faulty=faulty))


def minimal_quorums(network, *, faulty=()):
    """All quorums that contain no smaller quorum."""
    honest = start_of_removal(network, network.node_names(), faulty)
    return minimal_sets([nodes for nodes in subsets(honest) if is_quorum(network, nodes, faulty=faulty)])
