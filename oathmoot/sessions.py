"""Sessions: honest nodes vote, receive messages, accept statements and confirm them."""

from oathmoot.errors import AlreadyAccepted, AlreadyVoted, InvalidAnswer, InvalidBallot, InvalidMessage
from oathmoot.errors import NotAccepted, NotSent, OwnMessage
from oathmoot.messages import ANSWERS, is_answer, is_ballot, is_message
from oathmoot.nodesets import names_outside, node_set
from oathmoot.requirements import blocks, satisfies


class Portrait:
    """What is known of a node: its requirement, its votes and the statements that it accepted."""

    def __init__(self, requirement):
        self.requirement = requirement
        self.votes = {}
        self.accepts = {}

    def copy(self):
        """An independent copy."""
        twin = Portrait(self.requirement)
        twin.votes = {statement: True for statement in self.votes}
        twin.accepts = {statement: True for statement in self.accepts}
        return twin

    def agrees_to(self, statement):
        """Whether the node votes for a statement or accepts it."""
        return statement in self.votes or statement in self.accepts

    def news_in(self, message):
        """The statements in a message of the node that are new, as votes or as accepts."""
        votes = [statement for statement in message[2] if statement not in self.votes]
        accepts = [statement for statement in message[3] if statement not in self.accepts]
        return [*votes, *accepts]

    def take_in(self, message):
        """Know all that a message says, and of the requirements only the one in this message."""
        self.requirement = message[1]
        for statement in message[2]:
            self.votes[statement] = True
        for statement in message[3]:
            self.accepts[statement] = True

    def message_from(self, name):
        """All that is known, as one message of the node, which has this name."""
        return (name, self.requirement, tuple(sorted(self.votes)), tuple(sorted(self.accepts)))


class Member:
    """An honest node: what it did, and what it knows of itself and of the nodes from which it received messages."""

    def __init__(self, name, requirement):
        self.name = name
        self.own = Portrait(requirement)
        self.portraits = {name: self.own}
        # Each vote and each accepted statement makes a new message possible, so their order is kept.
        self.told = []
        self.reasons = {}
        self.confirmed = {}

    def copy(self):
        """An independent copy."""
        twin = Member(self.name, self.own.requirement)
        twin.portraits = {name: self.portraits[name].copy() for name in self.portraits}
        twin.own = twin.portraits[self.name]
        twin.told = list(self.told)
        twin.reasons = {ballot: self.reasons[ballot] for ballot in self.reasons}
        twin.confirmed = {statement: True for statement in self.confirmed}
        return twin

    def has_voted(self, ballot):
        """Whether the node voted on a ballot."""
        return any([(ballot, answer) in self.own.votes for answer in ANSWERS])

    def has_accepted(self, ballot):
        """Whether the node accepted a statement for a ballot."""
        return ballot in self.reasons

    def cast_vote(self, statement):
        """Vote for a statement."""
        self.own.votes[statement] = True
        self.told.append(("voted", statement))

    def accept(self, statement, reason):
        """Accept a statement for a reason."""
        self.own.accepts[statement] = True
        self.told.append(("accepted", statement))
        self.reasons[statement[0]] = reason

    def confirm(self, statement):
        """Confirm a statement."""
        self.confirmed[statement] = True

    def take_message(self, message):
        """Know what another node's message says. Return the ballots for which this can matter, in ascending order."""
        sender, requirement = message[:2]
        if sender not in self.portraits:
            self.portraits[sender] = Portrait(requirement)
        portrait = self.portraits[sender]
        statements = portrait.news_in(message)
        if portrait.requirement != requirement:
            # With another requirement the sender may complete a set for any statement to which this node agrees.
            statements = [*statements, *self.own.votes, *self.own.accepts]
        portrait.take_in(message)
        return sorted({ballot for ballot, answer in statements})

    def known_ballots(self):
        """The ballots on which the node knows a vote or an accepted statement, in ascending order."""
        statements = []
        for name in self.portraits:
            statements.extend(list(self.portraits[name].votes))
            statements.extend(list(self.portraits[name].accepts))
        return sorted({ballot for ballot, answer in statements})

    def message_after(self, count):
        """The message that describes the node after this number of votes and accepted statements."""
        votes = sorted([statement for word, statement in self.told[:count] if word == "voted"])
        accepts = sorted([statement for word, statement in self.told[:count] if word == "accepted"])
        return (self.name, self.own.requirement, tuple(votes), tuple(accepts))

    def can_have_sent(self, message):
        """Whether a message of this node describes the node at some time up to now."""
        # Each message that becomes possible has one statement more than the one before it, so the length tells which.
        return message == self.message_after(len(message[2]) + len(message[3]))

    def agreeing_nodes(self, statement):
        """The nodes of which the node knows that they vote for a statement or accept it."""
        return tuple([name for name in sorted(self.portraits) if self.portraits[name].agrees_to(statement)])

    def accepting_nodes(self, statement):
        """The nodes of which the node knows that they accept a statement."""
        return tuple([name for name in sorted(self.portraits) if statement in self.portraits[name].accepts])

    def is_convinced(self, name, nodes):
        """Whether a set satisfies the requirement of a node, as this node knows it."""
        return satisfies(self.portraits[name].requirement, nodes)

    def is_convinced_set(self, nodes, agreeing):
        """Whether a set of agreeing nodes contains this node and satisfies the requirement of each of its nodes."""
        if self.name not in nodes:
            return False
        return all([name in agreeing and self.is_convinced(name, nodes) for name in nodes])

    def largest_convinced_set(self, agreeing):
        """The largest such set, () if there is none."""
        if self.name not in agreeing:
            return ()
        remaining = tuple([name for name in agreeing if self.is_convinced(name, agreeing)])
        if len(remaining) == len(agreeing):
            return agreeing
        return self.largest_convinced_set(remaining)

    def supports(self, nodes, statement):
        """Whether a node set supports a statement for this node."""
        return self.is_convinced_set(nodes, self.agreeing_nodes(statement))

    def ratifies(self, nodes, statement):
        """Whether a node set ratifies a statement for this node."""
        return self.is_convinced_set(nodes, self.accepting_nodes(statement))

    def reason_to_accept(self, statement):
        """The reason for which the node can accept a statement, None if it has none."""
        supporting = self.largest_convinced_set(self.agreeing_nodes(statement))
        if len(supporting) > 0:
            return ("support", supporting)
        accepting = self.accepting_nodes(statement)
        if blocks(self.own.requirement, accepting):
            return ("blocking", accepting)
        return None

    def possible_acceptance(self, ballot):
        """The answer that the node can now accept for a ballot, with its reason, None if it can accept none."""
        if self.has_accepted(ballot):
            return None
        for answer in ANSWERS:
            reason = self.reason_to_accept((ballot, answer))
            if reason is not None:
                return (answer, reason)
        return None

    def possible_confirmation(self, ballot):
        """The answer that the node can now confirm for a ballot, with the largest set, None if it can confirm none."""
        for answer in ANSWERS:
            statement = (ballot, answer)
            if statement in self.own.accepts and statement not in self.confirmed:
                ratifying = self.largest_convinced_set(self.accepting_nodes(statement))
                return (answer, ratifying) if len(ratifying) > 0 else None
        return None


def honest_members(network, faulty):
    """The honest nodes of a network at the start of a session or a history, by their names."""
    honest = names_outside(network.node_names(), faulty)
    return {name: Member(name, network.requirement_of(name)) for name in honest}


def accept_possible(member, ballots):
    """Let a node accept what it can accept for these ballots, and return the events."""
    events = []
    for ballot in ballots:
        found = member.possible_acceptance(ballot)
        if found is not None:
            answer, reason = found
            member.accept((ballot, answer), reason)
            events.append(("accepted", member.name, ballot, answer, reason))
    return events


def confirm_possible(member, ballots):
    """Let a node confirm what it can confirm for these ballots, and return the events."""
    events = []
    for ballot in ballots:
        found = member.possible_confirmation(ballot)
        if found is not None:
            answer, nodes = found
            member.confirm((ballot, answer))
            events.append(("confirmed", member.name, ballot, answer, nodes))
    return events


class Session:
    """A session in a small network, of which some nodes are faulty."""

    def __init__(self, network, faulty=()):
        network.check_nodes(faulty)
        self.network = network
        self.faulty = node_set(faulty)
        self.members = honest_members(network, faulty)
        self.steps = []

    def __eq__(self, other):
        if not isinstance(other, Session):
            return False
        # Votes and messages only begin steps, and every step begins with one, so equal events mean equal steps.
        return self.network == other.network and self.faulty == other.faulty and self.steps == other.steps

    def __len__(self):
        return len(self.steps)

    def all_events(self):
        """All events so far."""
        return tuple([event for step in self.steps for event in step])

    def copy(self):
        """An independent copy."""
        twin = Session(self.network, self.faulty)
        twin.members = {name: self.members[name].copy() for name in self.members}
        twin.steps = list(self.steps)
        return twin

    def honest_member(self, node):
        """The honest node of this name."""
        self.network.check_honest(self.faulty, node)
        return self.members[node]

    def finish_step(self, member, first, ballots):
        """Let a node accept and confirm after the first event of a step, and return the events of the step."""
        accepted = accept_possible(member, ballots)
        confirmed = confirm_possible(member, ballots)
        events = (first, *accepted, *confirmed)
        self.steps.append(events)
        return events

    def vote(self, node, ballot, answer):
        """Let an honest node vote."""
        member = self.honest_member(node)
        if not is_ballot(ballot):
            raise InvalidBallot(ballot)
        if not is_answer(answer):
            raise InvalidAnswer(answer)
        if member.has_voted(ballot):
            raise AlreadyVoted(node, ballot)
        if member.has_accepted(ballot):
            raise AlreadyAccepted(node, ballot)
        member.cast_vote((ballot, answer))
        return self.finish_step(member, ("voted", node, ballot, answer), [ballot])

    def receive(self, node, message):
        """Let an honest node receive a message."""
        member = self.honest_member(node)
        if not is_message(self.network, message):
            raise InvalidMessage(message)
        sender = message[0]
        if sender == node:
            raise OwnMessage(node)
        if sender in self.members and not self.members[sender].can_have_sent(message):
            raise NotSent(sender)
        ballots = member.take_message(message)
        return self.finish_step(member, ("received", node, message), ballots)

    def messages_of(self, node):
        """All messages that an honest node can have sent so far, in the order in which they became possible."""
        member = self.honest_member(node)
        return tuple([member.message_after(count) for count in range(len(member.told) + 1)])

    def message_of(self, node):
        """The last message that an honest node can have sent."""
        return self.honest_member(node).own.message_from(node)

    def votes_of(self, node):
        """The statements that an honest node voted for."""
        return tuple(sorted(self.honest_member(node).own.votes))

    def accepted_by(self, node):
        """The statements that an honest node accepted."""
        return tuple(sorted(self.honest_member(node).own.accepts))

    def confirmed_by(self, node):
        """The statements that an honest node confirmed."""
        return tuple(sorted(self.honest_member(node).confirmed))

    def received_by(self, node):
        """What an honest node knows about other nodes: one message for each of them."""
        portraits = self.honest_member(node).portraits
        return tuple([portraits[sender].message_from(sender) for sender in sorted(portraits) if sender != node])

    def reason_of(self, node, ballot):
        """The reason for which an honest node accepted a statement for a ballot."""
        member = self.honest_member(node)
        if not is_ballot(ballot) or not member.has_accepted(ballot):
            raise NotAccepted(node, ballot)
        return member.reasons[ballot]
