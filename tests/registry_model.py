"""Registries by the words of [73] to [83]: rows, slots that run beside, and operations performed anew after undo."""

from oathmoot.errors import (
    DuplicateNode, DuplicateSlot, InUse, InvalidName, InvalidRequirement, MootError, NothingToRedo, NothingToUndo,
    UnknownNode, UnknownSlot,
)
from oathmoot.exchange import exchange
from oathmoot.networks import Network
from oathmoot.requirements import is_name, is_requirement
from oathmoot.slots import Slot
from tests.samples import drawn_requirement, drawn_set, written_names
from tests.slot_model import drawn_slot_step, honest_of

WORDS = ("join", "change", "leave", "start", "close", "nominate", "prepare", "commit", "receive", "exchange")


class RegistryModel:

    def __init__(self):
        self.rows = {}
        self.slots = {}
        self.closed = []
        self.performed = []
        self.undone = []

    def network(self):
        return Network(self.rows.items())

    def check_requirement(self, name, requirement):
        if not is_requirement(requirement):
            raise InvalidRequirement(name)
        for used in written_names(requirement):
            if used not in self.rows and used != name:
                raise UnknownNode(used)

    def join(self, name, requirement):
        if not is_name(name):
            raise InvalidName(name)
        if name in self.rows:
            raise DuplicateNode(name)
        self.check_requirement(name, requirement)
        self.rows[name] = requirement

    def change(self, name, requirement):
        if name not in self.rows:
            raise UnknownNode(name)
        self.check_requirement(name, requirement)
        self.rows[name] = requirement

    def leave(self, name):
        if name not in self.rows:
            raise UnknownNode(name)
        for user in sorted(self.rows):
            if user != name and name in written_names(self.rows[user]):
                raise InUse(name, user)
        del self.rows[name]

    def start(self, slot, faulty, values):
        for name in faulty:
            if name not in self.rows:
                raise UnknownNode(name)
        if not is_name(slot):
            raise InvalidName(slot)
        if slot in self.slots:
            raise DuplicateSlot(slot)
        self.slots[slot] = Slot(self.network(), faulty, values)

    def slot(self, name):
        if name not in self.slots:
            raise UnknownSlot(name)
        return self.slots[name]

    def close(self, slot):
        found = self.slot(slot)
        values = tuple(sorted({value for name in honest_of(found) for value in found.decided_by(name)}))
        del self.slots[slot]
        self.closed.append((slot, values))
        return values

    def nominate(self, slot, node, value):
        return self.slot(slot).nominate(node, value)

    def prepare(self, slot, node, number, value):
        return self.slot(slot).prepare(node, number, value)

    def commit(self, slot, node, number, value):
        return self.slot(slot).commit(node, number, value)

    def receive(self, slot, node, message):
        return self.slot(slot).receive(node, message)

    def exchange(self, slot, nodes):
        return exchange(self.slot(slot), nodes)

    def perform(self, operation):
        """Perform an operation or raise its exception; return what its method returns."""
        result = getattr(self, operation[0])(*operation[1:])
        self.performed.append(written(operation))
        self.undone = []
        return result

    def undo(self):
        if not self.performed:
            raise NothingToUndo()
        undone = [*self.undone, self.performed[-1]]
        self.rebuild(self.performed[:-1])
        self.undone = undone
        return undone[-1]

    def redo(self):
        if not self.undone:
            raise NothingToRedo()
        undone = self.undone
        self.perform(undone[-1])
        self.undone = undone[:-1]
        return undone[-1]

    def rebuild(self, operations):
        self.__init__()
        for operation in operations:
            self.perform(operation)


def written(operation):
    """An operation as it is returned."""
    if operation[0] == "start":
        word, slot, faulty, values = operation
        return (word, slot, tuple(sorted(set(faulty))), tuple(sorted(values)))
    if operation[0] == "exchange":
        return (*operation[:2], tuple(sorted(set(operation[2]))))
    return tuple(operation)


def outcome(target, operation):
    """What the operation returns, or the exception with its fields."""
    try:
        if operation[0] in ("undo", "redo"):
            return repr(getattr(target, operation[0])())
        if isinstance(target, RegistryModel):
            return repr(target.perform(operation))
        return repr(getattr(target, operation[0])(*operation[1:]))
    except MootError as error:
        return type(error).__name__, repr(vars(error))


def state_of(registry):
    """All that a registry returns."""
    slots = {name: registry.slot_copy(name) for name in registry.open_slots()}
    shown = [(name, slot.network.as_rows(), slot.faulty, slot.slot_values(), slot.all_events())
             for name, slot in slots.items()]
    return repr((registry.current_network().as_rows(), registry.open_slots(), shown, registry.closed_slots(),
                 registry.operations_in_effect(), len(registry), registry.undo_count(), registry.redo_count()))


def state_of_model(model):
    shown = [(name, slot.network.as_rows(), slot.faulty, slot.slot_values(), slot.all_events())
             for name, slot in sorted(model.slots.items())]
    return repr((tuple(sorted(model.rows.items())), tuple(sorted(model.slots)), shown, tuple(model.closed),
                 tuple(model.performed), len(model.performed), len(model.performed), len(model.undone)))


def drawn_network_operation(chance, model, word):
    names = "abcd"
    name = chance.choice(names)
    if word == "leave":
        return (word, name)
    known = sorted({*model.rows, name})
    requirement = drawn_requirement(chance, known if chance.random() < 0.8 else names)
    return (word, name, requirement)


def drawn_operation(chance, model):
    """An operation that the registry may or may not be able to perform."""
    if len(model.rows) < 3 and chance.random() < 0.5:
        return drawn_network_operation(chance, model, "join")
    word = chance.choice((*WORDS, "start", "exchange", "nominate", "receive", "receive"))
    if word in ("join", "change", "leave"):
        return drawn_network_operation(chance, model, word)
    slot = chance.choice(("s", "t", "u"))
    if model.slots and chance.random() < 0.8:
        slot = chance.choice(sorted(model.slots))
    if word == "start":
        faulty = drawn_set(chance, sorted(model.rows), 0.2)
        return (word, chance.choice(("s", "t", "u")), faulty, chance.sample(["y", "x", "z"], chance.randint(1, 3)))
    if word == "close":
        return (word, slot) if chance.random() < 0.3 else (word, "none")
    if slot not in model.slots:
        return (word, slot, "a", "x") if word == "nominate" else ("exchange", slot, ["a"])
    if word == "exchange":
        nodes = drawn_set(chance, model.slots[slot].network.node_names(), 0.8)
        faulty = model.slots[slot].faulty
        return (word, slot, nodes if chance.random() < 0.1 else [name for name in nodes if name not in faulty])
    step = drawn_slot_step(chance, model.slots[slot], (1, 2))
    return ("exchange", slot, []) if step is None else (step[0], slot, *step[1:])


def drawn_registry(chance, registry, tries):
    """Let a registry perform drawn operations beside a model; return the model."""
    model = RegistryModel()
    for _ in range(tries):
        operation = drawn_operation(chance, model)
        outcome(model, operation)
        outcome(registry, operation)
    return model
