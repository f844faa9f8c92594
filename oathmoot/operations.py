"""Operations of a registry: what each of them makes of a state."""

from oathmoot.errors import DuplicateNode, DuplicateSlot, InvalidName, UnknownSlot
from oathmoot.exchange import exchange
from oathmoot.networks import Network
from oathmoot.nodesets import names_outside, node_set
from oathmoot.requirements import is_name
from oathmoot.slots import Slot


class State:
    """A network, the open slots by their names, and the closed slots. It never changes, nor do the slots in it."""

    def __init__(self, network, slots, closed):
        self.network = network
        self.slots = slots
        self.closed = closed

    def __eq__(self, other):
        if not isinstance(other, State):
            return False
        return self.network == other.network and self.slots == other.slots and self.closed == other.closed

    def slot_called(self, name):
        """The open slot of this name."""
        if name not in self.slots:
            raise UnknownSlot(name)
        return self.slots[name]

    def with_network(self, network):
        """The state with another network, which does not affect the open slots."""
        return State(network, self.slots, self.closed)

    def with_slot(self, name, slot):
        """The state with an open slot of this name added or replaced."""
        slots = {other: self.slots[other] for other in self.slots}
        slots[name] = slot
        return State(self.network, slots, self.closed)

    def without_slot(self, name, values):
        """The state with an open slot closed, for which these values were decided."""
        slots = {other: self.slots[other] for other in self.slots if other != name}
        return State(self.network, slots, (*self.closed, (name, values)))


def first_state():
    """The state of a new registry."""
    return State(Network(), {}, ())


# Each function below returns the state after an operation and what its method returns.


def after_join(state, name, requirement):
    """A node is added."""
    if name in state.network.node_names():
        raise DuplicateNode(name)
    return (state.with_network(state.network.with_node(name, requirement)), None)


def after_change(state, name, requirement):
    """The requirement of a node is replaced."""
    state.network.check_nodes([name])
    return (state.with_network(state.network.with_node(name, requirement)), None)


def after_leave(state, name):
    """A node is removed."""
    return (state.with_network(state.network.without_node(name)), None)


def after_start(state, slot, faulty, values):
    """A slot is opened on the present network."""
    state.network.check_nodes(faulty)
    if not is_name(slot):
        raise InvalidName(slot)
    if slot in state.slots:
        raise DuplicateSlot(slot)
    return (state.with_slot(slot, Slot(state.network, faulty, values)), None)


def after_close(state, slot):
    """An open slot is closed."""
    ended = state.slot_called(slot)
    honest = names_outside(ended.network.node_names(), ended.faulty)
    values = node_set([value for name in honest for value in ended.decided_by(name)])
    return (state.without_slot(slot, values), values)


def after_nominate(state, slot, node, value):
    """A node of an open slot nominates a value."""
    twin = state.slot_called(slot).copy()
    events = twin.nominate(node, value)
    return (state.with_slot(slot, twin), events)


def after_prepare(state, slot, node, number, value):
    """A node of an open slot prepares a ballot."""
    twin = state.slot_called(slot).copy()
    events = twin.prepare(node, number, value)
    return (state.with_slot(slot, twin), events)


def after_commit(state, slot, node, number, value):
    """A node of an open slot votes for a prepared ballot."""
    twin = state.slot_called(slot).copy()
    events = twin.commit(node, number, value)
    return (state.with_slot(slot, twin), events)


def after_receive(state, slot, node, message):
    """A node of an open slot receives a message."""
    twin = state.slot_called(slot).copy()
    events = twin.receive(node, message)
    return (state.with_slot(slot, twin), events)


def after_exchange(state, slot, nodes):
    """Nodes of an open slot exchange their messages."""
    twin = state.slot_called(slot).copy()
    events = exchange(twin, nodes)
    return (state.with_slot(slot, twin), events)


ACTIONS = {
    "join": after_join,
    "change": after_change,
    "leave": after_leave,
    "start": after_start,
    "close": after_close,
    "nominate": after_nominate,
    "prepare": after_prepare,
    "commit": after_commit,
    "receive": after_receive,
    "exchange": after_exchange,
}


def after_operation(state, operation):
    """The state after an operation, and what its method returns."""
    word, *arguments = operation
    action = ACTIONS[word]
    return action(state, *arguments)


def written_operation(operation):
    """An operation that was performed, written as operations are returned."""
    word, *arguments = operation
    if word == "start":
        slot, faulty, values = arguments
        return (word, slot, node_set(faulty), tuple(sorted(values)))
    if word == "exchange":
        slot, nodes = arguments
        return (word, slot, node_set(nodes))
    return (word, *arguments)
