"""Shortest ways from one network to another."""

from oathmoot.nodesets import is_within, names_outside, subsets
from oathmoot.requirements import names_in


def used_others(network, name, names):
    """Those of the names, except the node's own, that the requirement of a node uses."""
    return [used for used in names_in(network.requirement_of(name)) if used in names and used != name]


def order_of_use(network, names):
    """The names, each after those of them that it uses, without those that use a cycle."""
    order = []
    ready = [name for name in names if used_others(network, name, names) == []]
    while len(ready) > 0:
        order.extend(ready)
        waiting = names_outside(names, order)
        ready = [name for name in waiting if is_within(used_others(network, name, names), order)]
    return order


def has_cycle(network, names):
    """Whether nodes of these names use each other in a cycle."""
    return len(order_of_use(network, names)) < len(names)


def cycle_breakers(network, names):
    """As few of the names as possible without which the others do not use each other in a cycle."""
    breakers = [nodes for nodes in subsets(names) if not has_cycle(network, names_outside(names, nodes))]
    return breakers[0]


def preliminary(name):
    """A requirement that uses no other node, so that the node can join before all others or leave after them."""
    return (1, (name,))


def joining_operations(network, names):
    """Operations that add these nodes of a network, as soon as its other nodes are there."""
    early = cycle_breakers(network, names)
    late = order_of_use(network, names_outside(names, early))
    operations = [("join", name, preliminary(name)) for name in early]
    operations.extend([("join", name, network.requirement_of(name)) for name in late])
    operations.extend([("change", name, network.requirement_of(name)) for name in early])
    return operations


def leaving_operations(network, names):
    """Operations that remove these nodes of a network, as soon as no other node uses them."""
    late = cycle_breakers(network, names)
    early = order_of_use(network, names_outside(names, late))
    operations = [("change", name, preliminary(name)) for name in late]
    operations.extend([("leave", name) for name in reversed(early)])
    operations.extend([("leave", name) for name in late])
    return operations


def changing_operations(one, other):
    """Operations that give the nodes of both networks the requirements that they have in the other one."""
    common = [name for name in one.node_names() if name in other.node_names()]
    changed = [name for name in common if one.requirement_of(name) != other.requirement_of(name)]
    return [("change", name, other.requirement_of(name)) for name in changed]


def shortest_migration(one, other):
    """A migration with as few operations as possible."""
    joining = joining_operations(other, names_outside(other.node_names(), one.node_names()))
    changing = changing_operations(one, other)
    leaving = leaving_operations(one, names_outside(one.node_names(), other.node_names()))
    return (*joining, *changing, *leaving)
