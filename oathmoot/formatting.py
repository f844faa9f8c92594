"""Requirements, networks, messages and events as text, and back."""

from oathmoot.errors import InvalidLine, InvalidText
from oathmoot.messages import are_statements, is_statement
from oathmoot.networks import Network
from oathmoot.nodesets import is_ascending
from oathmoot.requirements import is_name, is_requirement

DIGITS = "0123456789"
# A requirement has at most 12 parts, so its count never has more digits.
MOST_DIGITS = 2

# Each function below that is called `.._in` returns what a text stands for, None if it stands for nothing.


def digit_in(text):
    """A number of one digit."""
    if len(text) != 1 or text not in DIGITS:
        return None
    return int(text)


def count_in(text):
    """The count of a requirement."""
    if not 1 <= len(text) <= MOST_DIGITS or text[0] == "0":
        return None
    if any([letter not in DIGITS for letter in text]):
        return None
    return int(text)


def format_requirement(requirement):
    """A requirement as text."""
    count, parts = requirement
    texts = [part if isinstance(part, str) else format_requirement(part) for part in parts]
    inside = ",".join(texts)
    return f"{count}({inside})"


def count_and_parts_in(text):
    """The count of a requirement, and the text of its parts."""
    word, bracket, rest = text.partition("(")
    count = count_in(word)
    if count is None or not rest.endswith(")"):
        return None
    return (count, rest[:-1])


def split_parts(text):
    """The texts between the commas that stand outside of all brackets."""
    texts = []
    start = 0
    depth = 0
    for at, letter in enumerate(text):
        if letter == "(":
            depth += 1
        elif letter == ")":
            depth -= 1
        elif letter == "," and depth == 0:
            texts.append(text[start:at])
            start = at + 1
    return [*texts, text[start:]]


def part_in(text):
    """A part of a requirement; whether its names are names is left to be checked."""
    if is_name(text):
        return text
    found = count_and_parts_in(text)
    if found is None:
        return None
    count, names = found
    return (count, tuple(names.split(",")))


def requirement_in(text):
    """A requirement."""
    found = count_and_parts_in(text)
    if found is None:
        return None
    count, parts = found
    requirement = (count, tuple([part_in(part) for part in split_parts(parts)]))
    return requirement if is_requirement(requirement) else None


def parse_requirement(text):
    """The requirement that is formatted as this text."""
    requirement = requirement_in(text)
    if requirement is None:
        raise InvalidText(text)
    return requirement


def format_network(network):
    """A network as text, one line for each node."""
    return "\n".join([f"{name}: {format_requirement(requirement)}" for name, requirement in network.as_rows()])


def row_in(line):
    """The name and the requirement of a node."""
    name, mark, rest = line.partition(": ")
    requirement = requirement_in(rest)
    if not is_name(name) or requirement is None:
        return None
    return (name, requirement)


def parse_network(text):
    """The network that is formatted as this text."""
    rows = []
    lines = text.split("\n") if text != "" else []
    for at, line in enumerate(lines):
        row = row_in(line)
        if row is None or (at > 0 and row[0] <= rows[-1][0]):
            raise InvalidLine(at)
        rows.append(row)
    return Network(rows)


def format_statement(statement):
    """A statement as text."""
    (number, value), answer = statement
    return f"{number} {value} {answer}"


def statement_in(text):
    """A statement."""
    words = text.split(" ")
    if len(words) != 3:
        return None
    number, value, answer = words
    statement = ((digit_in(number), value), answer)
    return statement if is_statement(statement) else None


def format_statements(statements):
    """Statements as text."""
    if len(statements) == 0:
        return "-"
    return "; ".join([format_statement(statement) for statement in statements])


def statements_in(text):
    """Statements in ascending order without duplicates."""
    if text == "-":
        return ()
    statements = tuple([statement_in(part) for part in text.split("; ")])
    return statements if are_statements(statements) else None


def format_message(message):
    """A message as text."""
    sender, requirement, votes, accepts = message
    texts = [sender, format_requirement(requirement), format_statements(votes), format_statements(accepts)]
    return " | ".join(texts)


def message_in(text):
    """A message of any sender, whose requirement contains any names."""
    texts = text.split(" | ")
    if len(texts) != 4 or not is_name(texts[0]):
        return None
    requirement = requirement_in(texts[1])
    votes = statements_in(texts[2])
    accepts = statements_in(texts[3])
    if requirement is None or votes is None or accepts is None:
        return None
    return (texts[0], requirement, votes, accepts)


def parse_message(text):
    """The message that is formatted as this text."""
    message = message_in(text)
    if message is None:
        raise InvalidText(text)
    return message


def nodes_in(text):
    """A nonempty node set in ascending order without duplicates."""
    names = tuple(text.split(","))
    if not all([is_name(name) for name in names]) or not is_ascending(names):
        return None
    return names


def format_event(event):
    """An event as text."""
    word, node = event[:2]
    if word == "received":
        return f"{word} {node} {format_message(event[2])}"
    texts = [word, node, format_statement(event[2:4])]
    if word == "accepted":
        kind, nodes = event[4]
        texts.extend([kind, ",".join(nodes)])
    elif word == "confirmed":
        texts.append(",".join(event[4]))
    return " ".join(texts)


def event_with_reason_in(words, start):
    """An event "accepted", of which the start is known."""
    if len(words) != 2 or words[0] not in ("support", "blocking"):
        return None
    nodes = nodes_in(words[1])
    return None if nodes is None else (*start, (words[0], nodes))


def event_with_nodes_in(words, start):
    """An event "confirmed", of which the start is known."""
    if len(words) != 1:
        return None
    nodes = nodes_in(words[0])
    return None if nodes is None else (*start, nodes)


def event_in(text):
    """An event, in which names may be any names."""
    words = text.split(" ")
    if len(words) < 2 or not is_name(words[1]):
        return None
    word, node = words[:2]
    if word == "received":
        message = message_in(" ".join(words[2:]))
        return None if message is None else (word, node, message)
    statement = statement_in(" ".join(words[2:5]))
    if statement is None:
        return None
    start = (word, node, *statement)
    if word == "voted":
        return start if len(words) == 5 else None
    if word == "accepted":
        return event_with_reason_in(words[5:], start)
    if word == "confirmed":
        return event_with_nodes_in(words[5:], start)
    return None


def parse_event(text):
    """The event that is formatted as this text."""
    event = event_in(text)
    if event is None:
        raise InvalidText(text)
    return event
