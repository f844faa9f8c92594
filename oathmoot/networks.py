"""Networks: nodes, each with its requirement."""

from oathmoot.errors import DuplicateNode, FaultyNode, InUse, InvalidName, InvalidRequirement, UnknownNode
from oathmoot.requirements import is_name, is_requirement, names_in


def requirements_by_name(rows):
    """The requirements of the rows, in the order of the rows; each row is checked on its own."""
    requirements = {}
    for name, requirement in rows:
        if not is_name(name):
            raise InvalidName(name)
        if name in requirements:
            raise DuplicateNode(name)
        if not is_requirement(requirement):
            raise InvalidRequirement(name)
        requirements[name] = requirement
    return requirements


def check_names_used(requirements):
    """Raise UnknownNode for the first requirement that uses a name without a row, with the smallest such name."""
    for name in requirements:
        for used in names_in(requirements[name]):
            if used not in requirements:
                raise UnknownNode(used)


class Network:
    """A network. It never changes; the methods that look like changes return new networks."""

    def __init__(self, rows=()):
        requirements = requirements_by_name(rows)
        check_names_used(requirements)
        self.requirements = {name: requirements[name] for name in sorted(requirements)}

    def __eq__(self, other):
        return isinstance(other, Network) and self.requirements == other.requirements

    def __len__(self):
        return len(self.requirements)

    def node_names(self):
        """The names of all nodes, as a node set."""
        return tuple(self.requirements)

    def as_rows(self):
        """The pairs of a node's name and its requirement, in ascending order of names."""
        return tuple(self.requirements.items())

    def check_nodes(self, names):
        """Raise UnknownNode for the first of the names that is not a node."""
        for name in names:
            if name not in self.requirements:
                raise UnknownNode(name)

    def check_honest(self, faulty, name):
        """Raise UnknownNode for the first name that is not a node, then FaultyNode if the node is faulty."""
        self.check_nodes([*faulty, name])
        if name in faulty:
            raise FaultyNode(name)

    def requirement_of(self, name):
        """The requirement of a node."""
        self.check_nodes([name])
        return self.requirements[name]

    def rows_without(self, name):
        """The rows of all nodes but the one that has this name, if there is one."""
        return [row for row in self.as_rows() if row[0] != name]

    def with_node(self, name, requirement):
        """A network with this node added, or with the requirement of this node replaced."""
        others = self.rows_without(name)
        return Network([*others, (name, requirement)])

    def without_node(self, name):
        """A network without this node, which no other node may use."""
        self.check_nodes([name])
        others = self.rows_without(name)
        for user, requirement in others:
            if name in names_in(requirement):
                raise InUse(name, user)
        return Network(others)
