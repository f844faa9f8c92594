"""Registries: a network that changes over time and its open slots, with operations that can be undone."""

from oathmoot.errors import MootError, NothingToRedo, NothingToUndo
from oathmoot.migrations import shortest_migration
from oathmoot.operations import State, after_operation, first_state, written_operation

NETWORK_FORMS = (("join", 3), ("change", 3), ("leave", 2))


class Registry:
    """A registry. Its states never change, so that to undo an operation is to take back the state before it."""

    def __init__(self):
        self.performed = []
        # The state at the beginning and after each performed operation.
        self.states = [first_state()]
        # Pairs of an operation and the state after it, the last one undone at the end.
        self.undone = []

    def __eq__(self, other):
        return isinstance(other, Registry) and self.states[-1] == other.states[-1]

    def __len__(self):
        return len(self.performed)

    def current_network(self):
        """The present network."""
        return self.states[-1].network

    def open_slots(self):
        """The names of the open slots in ascending order."""
        return tuple(sorted(self.states[-1].slots))

    def slot_copy(self, name):
        """An independent copy of an open slot."""
        return self.states[-1].slot_called(name).copy()

    def closed_slots(self):
        """The pairs of a closed slot's name and its decided values, in the order of closing."""
        return self.states[-1].closed

    def operations_in_effect(self):
        """The operations in effect, in the order in which they were performed."""
        return tuple(self.performed)

    def copy(self):
        """An independent copy, in which the same operations can be undone and redone."""
        twin = Registry()
        twin.performed = list(self.performed)
        twin.states = list(self.states)
        twin.undone = list(self.undone)
        return twin

    def perform(self, operation):
        """Perform an operation, and return what its method returns."""
        state, result = after_operation(self.states[-1], operation)
        self.performed.append(written_operation(operation))
        self.states.append(state)
        self.undone = []
        return result

    def join(self, name, requirement):
        """Add a node."""
        return self.perform(("join", name, requirement))

    def change(self, name, requirement):
        """Replace the requirement of a node."""
        return self.perform(("change", name, requirement))

    def leave(self, name):
        """Remove a node."""
        return self.perform(("leave", name))

    def start(self, slot, faulty, values):
        """Open a slot on the present network."""
        return self.perform(("start", slot, faulty, values))

    def close(self, slot):
        """Close an open slot, and return the values that were decided."""
        return self.perform(("close", slot))

    def nominate(self, slot, node, value):
        """Let an honest node of an open slot nominate a value."""
        return self.perform(("nominate", slot, node, value))

    def prepare(self, slot, node, number, value):
        """Let an honest node of an open slot prepare a ballot."""
        return self.perform(("prepare", slot, node, number, value))

    def commit(self, slot, node, number, value):
        """Let an honest node of an open slot vote for a prepared ballot."""
        return self.perform(("commit", slot, node, number, value))

    def receive(self, slot, node, message):
        """Let an honest node of an open slot receive a message."""
        return self.perform(("receive", slot, node, message))

    def exchange(self, slot, nodes):
        """Let honest nodes of an open slot exchange their messages."""
        return self.perform(("exchange", slot, nodes))

    def undo(self):
        """Take back the last operation in effect, and return it."""
        if len(self.performed) == 0:
            raise NothingToUndo()
        operation = self.performed.pop()
        self.undone.append((operation, self.states.pop()))
        return operation

    def redo(self):
        """Perform the operation that was undone last again, and return it."""
        if len(self.undone) == 0:
            raise NothingToRedo()
        operation, state = self.undone.pop()
        self.performed.append(operation)
        self.states.append(state)
        return operation

    def undo_count(self):
        """How many operations can be undone."""
        return len(self.performed)

    def redo_count(self):
        """How many operations can be redone."""
        return len(self.undone)


def replay(operations):
    """A new registry that has performed the operations in order."""
    registry = Registry()
    for operation in operations:
        registry.perform(operation)
    return registry


def migration(one, other):
    """A migration from one network to another with as few operations as possible."""
    return shortest_migration(one, other)


def is_network_operation(value):
    """Whether any value has the form of an operation that changes the network."""
    if not isinstance(value, (tuple, list)) or len(value) < 2:
        return False
    # A name of another kind cannot be looked up; and no operation with it can be performed.
    return (value[0], len(value)) in NETWORK_FORMS and isinstance(value[1], str)


def is_migration(one, other, operations):
    """Whether any value is a migration from one network to another."""
    if not isinstance(operations, (tuple, list)):
        return False
    state = State(one, {}, ())
    for operation in operations:
        if not is_network_operation(operation):
            return False
        try:
            state = after_operation(state, operation)[0]
        except MootError:
            return False
    return state.network == other
