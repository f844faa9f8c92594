"""Whether every two quorums have a node in common, and certificates of it."""

from oathmoot.nodesets import names_outside
from oathmoot.quorums import is_quorum, is_removal_order, largest_quorum, removal_order


def certificate_or_quorums(network, one, other, faulty):
    """A certificate for these two sets of candidates or, where there is none, ("disjoint", one, other)."""
    largest_one = largest_quorum(network, one, faulty=faulty)
    if len(largest_one) == 0:
        return ("empty", "one", removal_order(network, one, faulty=faulty))
    largest_other = largest_quorum(network, other, faulty=faulty)
    if len(largest_other) == 0:
        return ("empty", "other", removal_order(network, other, faulty=faulty))
    common = [name for name in largest_one if name in largest_other]
    if len(common) == 0:
        return ("disjoint", largest_one, largest_other)
    # A node that is still a candidate of both sides was not split before, so each split is a new node.
    name = common[0]
    first = certificate_or_quorums(network, names_outside(one, [name]), other, faulty)
    if first[0] == "disjoint":
        return first
    second = certificate_or_quorums(network, one, names_outside(other, [name]), faulty)
    if second[0] == "disjoint":
        return second
    return ("split", name, first, second)


def intersection(network, *, faulty=()):
    """("intersecting", certificate), or ("disjoint", one, other) with two quorums without a common node."""
    network.check_nodes(faulty)
    honest = names_outside(network.node_names(), faulty)
    found = certificate_or_quorums(network, honest, honest, faulty)
    if found[0] == "disjoint":
        return found
    return ("intersecting", found)


def are_disjoint_quorums(network, one, other, *, faulty=()):
    """Whether two node sets are quorums that have no node in common."""
    network.check_nodes(one)
    network.check_nodes(other)
    network.check_nodes(faulty)
    if not is_quorum(network, one, faulty=faulty) or not is_quorum(network, other, faulty=faulty):
        return False
    return not any([name in other for name in one])


def is_row(value, word, length):
    """Whether a value is a tuple or list of this length that begins with this word."""
    return isinstance(value, (tuple, list)) and len(value) == length and value[0] == word


def is_valid_certificate(network, certificate, candidates, undivided, faulty):
    """Whether any value is a certificate for the candidates of both sides; only undivided nodes can be split."""
    if is_row(certificate, "empty", 3):
        side, order = certificate[1:]
        if side not in ("one", "other"):
            return False
        nodes = candidates[0] if side == "one" else candidates[1]
        return is_removal_order(network, nodes, order, faulty=faulty) and len(order) == len(nodes)
    if not is_row(certificate, "split", 4):
        return False
    name, first, second = certificate[1:]
    if name not in undivided:
        return False
    one, other = candidates
    rest = names_outside(undivided, [name])
    if not is_valid_certificate(network, first, (names_outside(one, [name]), other), rest, faulty):
        return False
    return is_valid_certificate(network, second, (one, names_outside(other, [name])), rest, faulty)


def is_intersection_certificate(network, certificate, *, faulty=()):
    """Whether any value is a valid certificate that every two quorums have a node in common."""
    network.check_nodes(faulty)
    honest = names_outside(network.node_names(), faulty)
    return is_valid_certificate(network, certificate, (honest, honest), honest, faulty)
