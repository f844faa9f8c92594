"""Quorums, certificates and tolerated sets by the words of the document, checked over all sets."""

from tests.samples import is_satisfied, subsets


def honest_nodes(network, faulty):
    return tuple(name for name in network.node_names() if name not in faulty)


def can_remove(network, name, nodes, faulty):
    return not is_satisfied(network.requirement_of(name), set(nodes) | set(faulty))


def is_quorum(network, nodes, faulty=()):
    if not nodes or set(nodes) & set(faulty):
        return False
    return all(is_satisfied(network.requirement_of(name), set(nodes) | set(faulty)) for name in nodes)


def quorums(network, faulty=()):
    return [nodes for nodes in subsets(honest_nodes(network, faulty)) if is_quorum(network, nodes, faulty)]


def minimal(sets):
    """Those of the sets that have no proper subset among them, in the same order."""
    return tuple(nodes for nodes in sets if not any(set(other) < set(nodes) for other in sets))


def have_common_nodes(sets):
    return all(set(one) & set(other) for one in sets for other in sets)


def is_certificate(network, value, one, other, splits, faulty):
    """Promise [29] for these two sets of candidates, below splits of these names; any value may be passed."""
    if not isinstance(value, (tuple, list)):
        return False
    if len(value) == 4 and value[0] == "split":
        word, name, first, second = value
        if name not in honest_nodes(network, faulty) or name in splits:
            return False
        below = splits | {name}
        return is_certificate(network, first, one - {name}, other, below, faulty) and is_certificate(
            network, second, one, other - {name}, below, faulty)
    if len(value) == 3 and value[0] == "empty":
        word, side, order = value
        if side != "one" and side != "other" or not isinstance(order, (tuple, list)):
            return False
        left = sorted(one if side == "one" else other)
        for name in order:
            if name not in left or not can_remove(network, name, left, faulty):
                return False
            left.remove(name)
        return left == []
    return False


def is_whole_certificate(network, certificate, faulty=()):
    honest = set(honest_nodes(network, faulty))
    return is_certificate(network, certificate, honest, honest, set(), faulty)


def tolerates(network, faulty):
    """Promise [31]."""
    honest = honest_nodes(network, faulty)
    if honest and not is_quorum(network, honest):
        return False
    return have_common_nodes(quorums(network, faulty))


def tolerated_sets(network):
    return tuple(nodes for nodes in subsets(network.node_names()) if tolerates(network, nodes))


def minimal_tolerated(network, faulty):
    return minimal([nodes for nodes in tolerated_sets(network) if set(faulty) <= set(nodes)])
