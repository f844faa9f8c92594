"""Histories: sequences of events, whether they are valid, and why a node accepted a statement."""

from oathmoot.errors import InvalidHistory, NotAccepted
from oathmoot.messages import is_answer, is_ballot, is_message
from oathmoot.nodesets import is_ascending, is_within
from oathmoot.requirements import blocks, satisfies
from oathmoot.sessions import honest_members


def is_written_set(network, value):
    """Whether a value is a node set of the network, written as node sets are returned."""
    return isinstance(value, tuple) and is_within(value, network.node_names()) and is_ascending(value)


def is_written_reason(network, value):
    """Whether a value has the form of a reason."""
    if not isinstance(value, tuple) or len(value) != 2:
        return False
    return value[0] in ("support", "blocking") and is_written_set(network, value[1])


def is_event(network, value):
    """Whether a value has the form of an event in a network."""
    if not isinstance(value, tuple) or len(value) < 3 or value[1] not in network.node_names():
        return False
    word = value[0]
    if word == "received":
        return len(value) == 3 and is_message(network, value[2])
    if len(value) < 4 or not is_ballot(value[2]) or not is_answer(value[3]):
        return False
    if word == "voted":
        return len(value) == 4
    if len(value) != 5:
        return False
    if word == "accepted":
        return is_written_reason(network, value[4])
    return word == "confirmed" and is_written_set(network, value[4])


def perform_vote(members, event):
    """Perform an event "voted" if it is allowed, and return whether it is."""
    member = members[event[1]]
    ballot, answer = event[2:]
    if member.has_voted(ballot) or member.has_accepted(ballot):
        return False
    member.cast_vote((ballot, answer))
    return True


def perform_receipt(members, event):
    """Perform an event "received" if it is allowed, and return whether it is."""
    node, message = event[1:]
    sender = message[0]
    if sender == node:
        return False
    if sender in members and not members[sender].can_have_sent(message):
        return False
    members[node].take_message(message)
    return True


def is_sufficient(member, statement, reason):
    """Whether a reason lets a node accept a statement."""
    word, nodes = reason
    if word == "support":
        return member.supports(nodes, statement)
    return is_within(nodes, member.accepting_nodes(statement)) and blocks(member.own.requirement, nodes)


def perform_acceptance(members, event):
    """Perform an event "accepted" if it is allowed, and return whether it is."""
    member = members[event[1]]
    ballot, answer, reason = event[2:]
    if member.has_accepted(ballot) or not is_sufficient(member, (ballot, answer), reason):
        return False
    member.accept((ballot, answer), reason)
    return True


def perform_confirmation(members, event):
    """Perform an event "confirmed" if it is allowed, and return whether it is."""
    member = members[event[1]]
    ballot, answer, nodes = event[2:]
    statement = (ballot, answer)
    if statement not in member.own.accepts or statement in member.confirmed:
        return False
    if not member.ratifies(nodes, statement):
        return False
    member.confirm(statement)
    return True


PERFORMERS = {
    "voted": perform_vote,
    "received": perform_receipt,
    "accepted": perform_acceptance,
    "confirmed": perform_confirmation,
}


def members_after(network, faulty, events):
    """The honest nodes as a valid history leaves them, None if any value is not a valid history."""
    if not isinstance(events, (tuple, list)):
        return None
    members = honest_members(network, faulty)
    for event in events:
        if not is_event(network, event) or event[1] not in members:
            return None
        perform = PERFORMERS[event[0]]
        if not perform(members, event):
            return None
    return members


def is_valid_history(network, faulty, events):
    """Whether any value is a valid history."""
    network.check_nodes(faulty)
    return members_after(network, faulty, events) is not None


def has_possible_event(member):
    """Whether a node can accept or confirm another statement."""
    for ballot in member.known_ballots():
        if member.possible_acceptance(ballot) is not None or member.possible_confirmation(ballot) is not None:
            return True
    return False


def is_complete_history(network, faulty, events):
    """Whether any value is a complete history."""
    network.check_nodes(faulty)
    members = members_after(network, faulty, events)
    if members is None:
        return False
    return not any([has_possible_event(members[name]) for name in members])


class Hearing:
    """Which message first told a receiver each statement, and which message of a sender came before each other."""

    def __init__(self, events, kept):
        self.firsts = {}
        self.previous = {}
        latest = {}
        for at in kept:
            if events[at][0] == "received":
                receiver, message = events[at][1:]
                pair = (receiver, message[0])
                self.previous[at] = latest.get(pair)
                latest[pair] = message
                self.note_statements(at, pair, message)

    def note_statements(self, at, pair, message):
        """Note the statements that the receiver did not hear from the sender before."""
        for statement in message[2]:
            self.firsts.setdefault((pair, "support", statement), at)
        for statement in message[3]:
            self.firsts.setdefault((pair, "support", statement), at)
            self.firsts.setdefault((pair, "blocking", statement), at)


class Needs:
    """What the later events of a history need of the earlier ones; it is filled from the last event back."""

    def __init__(self, hearing):
        self.hearing = hearing
        # By node: how many of its votes and acceptances its longest message that stays describes.
        self.described = {}
        # The nodes and statements where the own vote of the node is part of the support.
        self.supported = {}
        # By receiver and sender: what must still be heard, and the sets that the last requirement must fit.
        self.unheard = {}
        self.unfitted = {}

    def add_acceptance(self, event):
        """Note what an acceptance needs: the own vote, and what was heard from the other nodes of the reason."""
        node = event[1]
        statement = event[2:4]
        word, nodes = event[4]
        if word == "support":
            self.supported[(node, statement)] = True
        for sender in nodes:
            if sender != node:
                self.unheard.setdefault((node, sender), []).append((word, statement))
                if word == "support":
                    self.unfitted.setdefault((node, sender), []).append(nodes)

    def add_message(self, event):
        """Note that a message stays: what it says need not be heard before, but its sender must have done it."""
        receiver, message = event[1:]
        sender, requirement, votes, accepts = message
        self.described[sender] = max(len(votes) + len(accepts), self.described.get(sender, 0))
        pair = (receiver, sender)
        said = {("support", statement): True for statement in [*votes, *accepts]}
        said.update({("blocking", statement): True for statement in accepts})
        self.unheard[pair] = [need for need in self.unheard.get(pair, []) if need not in said]
        self.unfitted[pair] = []

    def add_event(self, event):
        """Note what an event that stays needs; votes need nothing."""
        if event[0] == "accepted":
            self.add_acceptance(event)
        elif event[0] == "received":
            self.add_message(event)

    def need_message(self, event, at):
        """Whether the message that is received there cannot be left out, given all events before it."""
        pair = (event[1], event[2][0])
        for word, statement in self.unheard.get(pair, []):
            if self.hearing.firsts[(pair, word, statement)] == at:
                return True
        # A set that must still fit belongs to a statement that must still be heard, so here it was heard before.
        for nodes in self.unfitted.get(pair, []):
            if not satisfies(self.hearing.previous[at][1], nodes):
                return True
        return False

    def need_event(self, event, at, place):
        """Whether an event cannot be left out; its node votes and accepts that many times before it."""
        if event[0] == "received":
            return self.need_message(event, at)
        if event[0] == "confirmed":
            return False
        if place < self.described.get(event[1], 0):
            return True
        return event[0] == "voted" and (event[1], event[2:4]) in self.supported


def places_of(events):
    """For each event, how many votes and acceptances of its node come before it."""
    counts = {}
    places = []
    for event in events:
        place = counts.get(event[1], 0)
        places.append(place)
        if event[0] in ("voted", "accepted"):
            counts[event[1]] = place + 1
    return places


def needed_indexes(events, places, kept):
    """The kept indexes without those of events that can be left out, looking once from the last event back."""
    last = kept[-1]
    needs = Needs(Hearing(events, kept))
    needs.add_event(events[last])
    needed = [last]
    for at in reversed(kept[:-1]):
        if needs.need_event(events[at], at, places[at]):
            needs.add_event(events[at])
            needed.append(at)
    return needed[::-1]


def needed_history(events):
    """A valid history that ends with the last of these events and from which no other event can be left out."""
    places = places_of(events)
    kept = list(range(len(events)))
    fewer = needed_indexes(events, places, kept)
    # A message may be needed only because of an earlier one that goes later, so one look back is not enough.
    while len(fewer) < len(kept):
        kept = fewer
        fewer = needed_indexes(events, places, kept)
    return tuple([events[at] for at in kept])


def justification(network, faulty, events, node, ballot):
    """A valid history, part of the events, that ends where the node accepts and holds nothing needless."""
    if not is_valid_history(network, faulty, events):
        raise InvalidHistory()
    if is_ballot(ballot):
        for at, event in enumerate(events):
            if event[0] == "accepted" and event[1] == node and event[2] == ballot:
                return needed_history(events[:at + 1])
    raise NotAccepted(node, ballot)
