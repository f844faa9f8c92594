"""Ballots, answers, statements and messages."""

from oathmoot.nodesets import is_ascending, is_within
from oathmoot.requirements import is_name, is_requirement, is_whole_number, names_in

LARGEST_NUMBER = 6
# A node that can accept both answers of a ballot accepts the first one.
ANSWERS = ("commit", "abort")


def is_ballot(value):
    """Whether a value is a ballot: a number from 0 to 6 and a name."""
    if not isinstance(value, tuple) or len(value) != 2:
        return False
    number, name = value
    return is_whole_number(number) and 0 <= number <= LARGEST_NUMBER and is_name(name)


def is_answer(value):
    """Whether a value is an answer."""
    return value in ANSWERS


def is_statement(value):
    """Whether a value is a statement: a ballot and an answer."""
    if not isinstance(value, tuple) or len(value) != 2:
        return False
    ballot, answer = value
    return is_ballot(ballot) and is_answer(answer)


def are_statements(value):
    """Whether a value is a tuple of statements in ascending order without duplicates."""
    if not isinstance(value, tuple):
        return False
    return all([is_statement(entry) for entry in value]) and is_ascending(value)


def is_message(network, value):
    """Whether a value is a message in a network: sender, requirement, votes and accepts."""
    if not isinstance(value, tuple) or len(value) != 4:
        return False
    sender, requirement, votes, accepts = value
    names = network.node_names()
    if sender not in names or not is_requirement(requirement) or not is_within(names_in(requirement), names):
        return False
    return are_statements(votes) and are_statements(accepts)
