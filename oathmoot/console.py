"""The console: text commands on a registry."""

from oathmoot.analysis import followers
from oathmoot.errors import InvalidCommand
from oathmoot.formatting import digit_in, format_event, format_message, format_network, format_requirement
from oathmoot.formatting import message_in, requirement_in
from oathmoot.registry import Registry
from oathmoot.requirements import is_name
from oathmoot.tolerance import closure, dependent_nodes, fatal_sets, guardian_sets, repairs, tolerance

MOST_VALUES = 3

# Each command with the kinds of the words behind it. A message is the rest of the line.
FORMS = {
    "join": ("name", "requirement"),
    "change": ("name", "requirement"),
    "leave": ("name",),
    "start": ("name", "nodes", "values"),
    "close": ("name",),
    "nominate": ("name", "name", "name"),
    "prepare": ("name", "name", "number", "name"),
    "commit": ("name", "name", "number", "name"),
    "receive": ("name", "name", "message"),
    "exchange": ("name", "nodes"),
    "undo": (),
    "redo": (),
    "network": (),
    "slots": (),
    "archive": (),
    "operations": (),
    "counts": (),
    "tolerance": ("nodes",),
    "dependents": ("nodes",),
    "closure": ("nodes",),
    "fatal": (),
    "guardians": (),
    "repairs": ("nodes",),
    "followers": ("nodes", "name"),
    "events": ("name",),
    "message": ("name", "name"),
    "reason": ("name", "name", "number", "name"),
    "nominated": ("name", "name"),
    "decided": ("name", "name"),
    "prepared": ("name", "name", "number", "name"),
}


# Each function below that is called `read_..` returns what a text stands for, None if it stands for nothing.


def read_name(text):
    """A name."""
    return text if is_name(text) else None


def read_number(text):
    """A number of one digit."""
    return digit_in(text)


def read_requirement(text):
    """A requirement."""
    return requirement_in(text)


def read_message(text):
    """A message."""
    return message_in(text)


def read_names(text):
    """Names in the order in which they are written, perhaps with duplicates."""
    names = tuple(text.split(","))
    return names if all([is_name(name) for name in names]) else None


def read_nodes(text):
    """A node set as it is written."""
    return () if text == "-" else read_names(text)


def read_values(text):
    """The values of a slot as they are written."""
    names = read_names(text)
    return names if names is not None and len(names) <= MOST_VALUES else None


READERS = {
    "name": read_name,
    "number": read_number,
    "requirement": read_requirement,
    "nodes": read_nodes,
    "values": read_values,
    "message": read_message,
}


def words_behind(words, kinds):
    """The words behind the first one; those of a message, which is the rest of the line, are put together."""
    if len(kinds) == 0 or kinds[-1] != "message":
        return words[1:]
    single = words[1:len(kinds)]
    rest = " ".join(words[len(kinds):])
    return [*single, rest]


def read_command(line):
    """The first word of a command and what the others stand for."""
    words = line.split(" ")
    if words[0] not in FORMS:
        raise InvalidCommand(line)
    kinds = FORMS[words[0]]
    texts = words_behind(words, kinds)
    if len(texts) != len(kinds):
        raise InvalidCommand(line)
    arguments = []
    for kind, text in zip(kinds, texts):
        read = READERS[kind]
        argument = read(text)
        if argument is None:
            raise InvalidCommand(line)
        arguments.append(argument)
    return (words[0], *arguments)


def written_set(names):
    """A node set or values, `-` if there are none."""
    return ",".join(names) if len(names) > 0 else "-"


def written_argument(kind, argument):
    """An argument of a command."""
    if kind == "requirement":
        return format_requirement(argument)
    if kind == "message":
        return format_message(argument)
    if kind in ("nodes", "values"):
        return written_set(argument)
    return str(argument)


def written_command(operation):
    """An operation as a command."""
    word, *arguments = operation
    texts = [written_argument(kind, argument) for kind, argument in zip(FORMS[word], arguments)]
    return " ".join([word, *texts])


def shown_names(names):
    """Several names as an output."""
    return ",".join(names) if len(names) > 0 else "none"


def shown_lines(lines):
    """Several lines as an output."""
    return "\n".join(lines) if len(lines) > 0 else "none"


def shown_events(events):
    """Events as an output."""
    return shown_lines([format_event(event) for event in events])


def shown_result(word, result):
    """What an operation of this name returned, as an output."""
    if word in ("join", "change", "leave", "start"):
        return "ok"
    if word == "close":
        return shown_names(result)
    return shown_events(result)


# Each function below returns the output of a query.


def show_network(registry):
    """The present network."""
    text = format_network(registry.current_network())
    return text if text != "" else "none"


def show_slots(registry):
    """The names of the open slots."""
    return shown_names(registry.open_slots())


def show_archive(registry):
    """The closed slots."""
    return shown_lines([f"{name} {written_set(values)}" for name, values in registry.closed_slots()])


def show_operations(registry):
    """The operations in effect."""
    return shown_lines([written_command(operation) for operation in registry.operations_in_effect()])


def show_counts(registry):
    """How many operations can be undone and redone."""
    return f"{registry.undo_count()} {registry.redo_count()}"


def show_tolerance(registry, nodes):
    """Whether the network tolerates a node set."""
    found = tolerance(registry.current_network(), nodes)
    if found[0] == "dependent":
        return f"dependent {found[1]}"
    return found[0]


def show_dependents(registry, nodes):
    """The nodes that depend on faulty ones."""
    return shown_names(dependent_nodes(registry.current_network(), nodes))


def show_closure(registry, nodes):
    """The smallest tolerated set that contains a node set."""
    return shown_names(closure(registry.current_network(), nodes))


def show_fatal(registry):
    """The smallest fatal sets."""
    return shown_lines([written_set(nodes) for nodes in fatal_sets(registry.current_network())])


def show_guardians(registry):
    """The smallest sets that have a node in common with every fatal set."""
    return shown_lines([written_set(nodes) for nodes in guardian_sets(registry.current_network())])


def show_repairs(registry, nodes):
    """The counts with which the network would tolerate a node set."""
    return shown_lines([f"{name} {count}" for name, count in repairs(registry.current_network(), nodes)])


def show_followers(registry, nodes, name):
    """The followers of a node set without a node."""
    return shown_names(followers(registry.current_network(), nodes, name))


def show_events(registry, slot):
    """The events of an open slot."""
    return shown_events(registry.slot_copy(slot).all_events())


def show_message(registry, slot, node):
    """The last message that a node of an open slot can have sent."""
    return format_message(registry.slot_copy(slot).message_of(node))


def show_reason(registry, slot, node, number, value):
    """The reason for which a node of an open slot accepted a statement for a ballot."""
    word, nodes = registry.slot_copy(slot).reason_of(node, (number, value))
    return f"{word} {written_set(nodes)}"


def show_nominated(registry, slot, node):
    """The values that are nominated for a node of an open slot."""
    return shown_names(registry.slot_copy(slot).nominated_for(node))


def show_decided(registry, slot, node):
    """The values that a node of an open slot has decided."""
    return shown_names(registry.slot_copy(slot).decided_by(node))


def show_prepared(registry, slot, node, number, value):
    """Whether a ballot is prepared for a node of an open slot."""
    return "yes" if registry.slot_copy(slot).is_prepared(node, number, value) else "no"


QUERIES = {
    "network": show_network,
    "slots": show_slots,
    "archive": show_archive,
    "operations": show_operations,
    "counts": show_counts,
    "tolerance": show_tolerance,
    "dependents": show_dependents,
    "closure": show_closure,
    "fatal": show_fatal,
    "guardians": show_guardians,
    "repairs": show_repairs,
    "followers": show_followers,
    "events": show_events,
    "message": show_message,
    "reason": show_reason,
    "nominated": show_nominated,
    "decided": show_decided,
    "prepared": show_prepared,
}


class Console:
    """A console with a registry of its own."""

    def __init__(self):
        self.registry = Registry()

    def registry_copy(self):
        """An independent copy of the registry."""
        return self.registry.copy()

    def run(self, line):
        """Run a command and return its output."""
        command = read_command(line)
        word, *arguments = command
        if word in QUERIES:
            query = QUERIES[word]
            return query(self.registry, *arguments)
        if word == "undo":
            return written_command(self.registry.undo())
        if word == "redo":
            return written_command(self.registry.redo())
        return shown_result(word, self.registry.perform(command))
