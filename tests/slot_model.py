"""Slots by the words of [64] to [70], over a session; and drawn slots."""

import itertools

from oathmoot.errors import (
    AlreadyAccepted, AlreadyVoted, FaultyNode, InvalidMessage, InvalidNumber, MootError, NotNominated, NotPrepared,
    UnknownNode, UnknownValue,
)
from oathmoot.messages import is_message
from oathmoot.sessions import Session
from tests.model import drawn_message

SESSION_QUERIES = ("messages_of", "message_of", "votes_of", "accepted_by", "confirmed_by", "received_by")


class SlotModel:
    """A session beside which the rules of slots are worked out anew each time."""

    def __init__(self, network, faulty, values):
        self.session = Session(network, faulty)
        self.values = sorted(values)

    def check_node(self, node):
        if node not in self.session.network.node_names():
            raise UnknownNode(node)
        if node in self.session.faulty:
            raise FaultyNode(node)

    def check_value(self, value):
        if not any(type(value) is str and value == own for own in self.values):
            raise UnknownValue(value)

    def check_number(self, number):
        if type(number) is not int or number not in (1, 2, 3, 4, 5, 6):
            raise InvalidNumber(number)

    def smaller(self, number, value):
        """The smaller ballots with a number from 1 on and another value, in ascending order."""
        ballots = itertools.product((1, 2, 3, 4, 5, 6), self.values)
        return sorted(ballot for ballot in ballots if ballot < (number, value) and ballot[1] != value)

    def confirmed(self, node, ballot, answer):
        return (ballot, answer) in self.session.confirmed_by(node)

    def prepared(self, node, number, value):
        return all(self.confirmed(node, ballot, "abort") for ballot in self.smaller(number, value))

    def settled(self, node):
        votes = {ballot for ballot, answer in self.session.votes_of(node)}
        return votes, {ballot for ballot, answer in self.session.accepted_by(node)}

    def cast(self, node, ballot):
        voted, accepted = self.settled(node)
        if ballot in voted:
            raise AlreadyVoted(node, ballot)
        if ballot in accepted:
            raise AlreadyAccepted(node, ballot)
        return self.session.vote(node, ballot, "commit")

    def nominate(self, node, value):
        self.check_node(node)
        self.check_value(value)
        return self.cast(node, (0, value))

    def prepare(self, node, number, value):
        self.check_node(node)
        self.check_number(number)
        self.check_value(value)
        voted, accepted = self.settled(node)
        events = ()
        for ballot in self.smaller(number, value):
            if ballot not in voted | accepted:
                events += self.session.vote(node, ballot, "abort")
        return events

    def commit(self, node, number, value):
        self.check_node(node)
        self.check_number(number)
        self.check_value(value)
        if not self.confirmed(node, (0, value), "commit"):
            raise NotNominated(node, value)
        if not self.prepared(node, number, value):
            raise NotPrepared(node, (number, value))
        return self.cast(node, (number, value))

    def receive(self, node, message):
        self.check_node(node)
        if not is_message(self.session.network, message):
            raise InvalidMessage(message)
        if any(statement[0][1] not in self.values for statement in message[2] + message[3]):
            raise InvalidMessage(message)
        return self.session.receive(node, message)

    def nominated_for(self, node):
        return tuple(value for value in self.values if self.confirmed(node, (0, value), "commit"))

    def decided_by(self, node):
        return tuple(value for value in self.values
                     if any(self.confirmed(node, (number, value), "commit") for number in range(1, 7)))


def honest_of(slot):
    return [name for name in slot.network.node_names() if name not in slot.faulty]


def slot_ballots(slot):
    return [(number, value) for number in range(7) for value in slot.slot_values()]


def perform(slot, step):
    """Perform a step, a tuple of a method's name and its arguments; return what it returns, or the exception."""
    try:
        return getattr(slot, step[0])(*step[1:])
    except MootError as error:
        return type(error).__name__, vars(error)


def drawn_slot_step(chance, slot, numbers=(1, 2, 3)):
    """A step of an honest node, which the slot may or may not be able to perform; None if there is no such step."""
    honest = honest_of(slot)
    if not honest:
        return None
    node = chance.choice(honest)
    value = chance.choice(slot.slot_values())
    word = chance.choice(("nominate", "prepare", "commit", "receive", "receive", "receive"))
    if word == "nominate":
        return (word, node, value)
    if word != "receive":
        return (word, node, chance.choice(numbers), value)
    others = [name for name in slot.network.node_names() if name != node]
    if not others:
        return None
    sender = chance.choice(others)
    if sender in slot.faulty:
        return (word, node, drawn_message(chance, slot.network, sender, chance.sample(slot_ballots(slot), 3)))
    message = slot.message_of(sender) if chance.random() < 0.8 else chance.choice(slot.messages_of(sender))
    return (word, node, message)


def drawn_slot(chance, slot, tries, numbers=(1, 2, 3)):
    """Let a slot perform drawn steps, and return it."""
    for _ in range(tries):
        step = drawn_slot_step(chance, slot, numbers)
        if step is not None:
            perform(slot, step)
    return slot


def drawn_decision(chance, slot, tries, numbers=(1, 2, 3)):
    """Drawn steps that often lead to decisions: some nodes hear of each other between them."""
    for _ in range(tries):
        value, number = chance.choice(slot.slot_values()), chance.choice(numbers)
        for word in ("nominate", "prepare", "commit"):
            for node in honest_of(slot):
                if chance.random() < 0.8:
                    perform(slot, (word, node, value) if word == "nominate" else (word, node, number, value))
            for _ in range(2):
                for node, sender in itertools.permutations(honest_of(slot), 2):
                    if chance.random() < 0.7:
                        slot.receive(node, slot.message_of(sender))
        drawn_slot(chance, slot, 3, numbers)
    return slot
