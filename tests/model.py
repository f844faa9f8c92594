"""Sessions and histories by the words of [42] to [52], checked over all sets; and drawn sessions."""

from tests.samples import drawn_requirement, is_blocked, is_satisfied, subsets

ANSWERS = ("commit", "abort")


class Knowledge:
    """What an honest node did and received, as plain lists; everything else is worked out anew each time."""

    def __init__(self, network, name):
        self.name = name
        self.requirement = network.requirement_of(name)
        self.nodes = network.node_names()
        self.votes = []
        self.accepts = []
        self.confirms = []
        self.inbox = []
        self.messages = [(name, self.requirement, (), ())]

    def add_message(self):
        self.messages.append((self.name, self.requirement, tuple(sorted(self.votes)), tuple(sorted(self.accepts))))

    def requirement_of(self, other):
        """The requirement of a node as this node knows it, None if it knows none."""
        if other == self.name:
            return self.requirement
        found = [message[1] for message in self.inbox if message[0] == other]
        return found[-1] if found else None

    def knows_vote(self, other, statement):
        if other == self.name:
            return statement in self.votes
        return any(message[0] == other and statement in message[2] for message in self.inbox)

    def knows_accept(self, other, statement):
        if other == self.name:
            return statement in self.accepts
        return any(message[0] == other and statement in message[3] for message in self.inbox)

    def is_closed(self, nodes):
        """The part of [43] that supporting and ratifying have in common."""
        if self.name not in nodes or any(self.requirement_of(other) is None for other in nodes):
            return False
        return all(is_satisfied(self.requirement_of(other), nodes) for other in nodes)

    def supports(self, nodes, statement):
        return self.is_closed(nodes) and all(
            self.knows_vote(other, statement) or self.knows_accept(other, statement) for other in nodes)

    def ratifies(self, nodes, statement):
        return self.is_closed(nodes) and all(self.knows_accept(other, statement) for other in nodes)

    def largest(self, holds, statement):
        """The largest set for which `holds`, None if there is none; it must contain all others."""
        found = [nodes for nodes in subsets(self.nodes) if holds(nodes, statement)]
        if not found:
            return None
        assert all(set(nodes) <= set(found[-1]) for nodes in found)
        return found[-1]

    def accepters(self, statement):
        return tuple(other for other in self.nodes if self.knows_accept(other, statement))

    def ballots(self):
        own = [statement[0] for statement in self.votes + self.accepts]
        heard = [statement[0] for message in self.inbox for statement in message[2] + message[3]]
        return sorted(set(own + heard))

    def has_accepted(self, ballot):
        return any((ballot, answer) in self.accepts for answer in ANSWERS)

    def has_voted(self, ballot):
        return any((ballot, answer) in self.votes for answer in ANSWERS)

    def acceptance(self, ballot):
        """The answer and the reason with which a session lets the node accept, None if it does not."""
        if self.has_accepted(ballot):
            return None
        for answer in ANSWERS:
            statement = (ballot, answer)
            nodes = self.largest(self.supports, statement)
            if nodes is not None:
                return answer, ("support", nodes)
            if is_blocked(self.requirement, self.accepters(statement)):
                return answer, ("blocking", self.accepters(statement))
        return None

    def confirmation(self, ballot):
        for answer in ANSWERS:
            statement = (ballot, answer)
            if statement in self.accepts and statement not in self.confirms:
                nodes = self.largest(self.ratifies, statement)
                if nodes is not None:
                    return answer, nodes
        return None

    def settle(self):
        """Accept and confirm all that is possible, and return the events."""
        events = []
        for ballot in self.ballots():
            found = self.acceptance(ballot)
            if found is not None:
                self.accepts.append((ballot, found[0]))
                self.add_message()
                events.append(("accepted", self.name, ballot, *found))
        for ballot in self.ballots():
            found = self.confirmation(ballot)
            if found is not None:
                self.confirms.append((ballot, found[0]))
                events.append(("confirmed", self.name, ballot, *found))
        return tuple(events)


class Model:
    """A session, without any check of what is passed."""

    def __init__(self, network, faulty=()):
        self.network = network
        self.nodes = {name: Knowledge(network, name) for name in network.node_names() if name not in faulty}

    def vote(self, node, ballot, answer):
        self.nodes[node].votes.append((ballot, answer))
        self.nodes[node].add_message()
        return (("voted", node, ballot, answer), *self.nodes[node].settle())

    def receive(self, node, message):
        self.nodes[node].inbox.append(message)
        return (("received", node, message), *self.nodes[node].settle())

    def received_by(self, node):
        inbox = self.nodes[node].inbox
        result = []
        for sender in sorted({message[0] for message in inbox}):
            own = [message for message in inbox if message[0] == sender]
            votes = {statement for message in own for statement in message[2]}
            accepts = {statement for message in own for statement in message[3]}
            result.append((sender, own[-1][1], tuple(sorted(votes)), tuple(sorted(accepts))))
        return tuple(result)

    def allows(self, event):
        """[52] for an event that has the form of an event; the node need not be honest."""
        word, node = event[:2]
        if node not in self.nodes:
            return False
        mine = self.nodes[node]
        if word == "voted":
            return not mine.has_voted(event[2]) and not mine.has_accepted(event[2])
        if word == "received":
            sender = event[2][0]
            return sender != node and (sender not in self.nodes or event[2] in self.nodes[sender].messages)
        statement = event[2:4]
        if word == "accepted":
            kind, nodes = event[4]
            if mine.has_accepted(event[2]):
                return False
            if kind == "support":
                return mine.supports(nodes, statement)
            return set(nodes) <= set(mine.accepters(statement)) and is_blocked(mine.requirement, nodes)
        return statement in mine.accepts and statement not in mine.confirms and mine.ratifies(event[4], statement)

    def perform(self, event):
        mine = self.nodes[event[1]]
        if event[0] == "received":
            mine.inbox.append(event[2])
        elif event[0] == "confirmed":
            mine.confirms.append(event[2:4])
        else:
            (mine.votes if event[0] == "voted" else mine.accepts).append(event[2:4])
            mine.add_message()

    def is_complete(self):
        return not any(mine.acceptance(ballot) or mine.confirmation(ballot)
                       for mine in self.nodes.values() for ballot in mine.ballots())


def model_after(network, faulty, events):
    """A model that performed the events, each of which has the form of an event; None if one is not allowed."""
    model = Model(network, faulty)
    for event in events:
        if not model.allows(event):
            return None
        model.perform(event)
    return model


def is_valid(network, faulty, events):
    return model_after(network, faulty, events) is not None


def is_complete(network, faulty, events):
    model = model_after(network, faulty, events)
    return model is not None and model.is_complete()


def drawn_statements(chance, ballots, share):
    statements = [(ballot, answer) for ballot in ballots for answer in ANSWERS]
    return tuple(sorted(statement for statement in statements if chance.random() < share))


def drawn_message(chance, network, sender, ballots):
    """Any message, as a faulty node may send it; mostly with the requirement that the node has in the network."""
    requirement = network.requirement_of(sender)
    if chance.random() < 0.4:
        requirement = drawn_requirement(chance, network.node_names())
    share = chance.choice((0.1, 0.3, 0.7))
    return (sender, requirement, drawn_statements(chance, ballots, share), drawn_statements(chance, ballots, share))


def drawn_step(chance, session, ballots):
    """A step that the session can perform, as a pair of a method's name and its arguments; None if none was drawn."""
    honest = [name for name in session.network.node_names() if name not in session.faulty]
    if not honest:
        return None
    node = chance.choice(honest)
    if chance.random() < 0.35:
        ballot = chance.choice(ballots)
        taken = [statement[0] for statement in session.votes_of(node) + session.accepted_by(node)]
        return None if ballot in taken else ("vote", (node, ballot, chance.choice((*ANSWERS, "commit"))))
    others = [name for name in session.network.node_names() if name != node]
    if not others:
        return None
    sender = chance.choice(others)
    if sender in session.faulty:
        return ("receive", (node, drawn_message(chance, session.network, sender, ballots)))
    message = session.message_of(sender) if chance.random() < 0.7 else chance.choice(session.messages_of(sender))
    return ("receive", (node, message))


def drawn_session(chance, session, ballots, tries):
    """Let a session perform drawn steps, and return it."""
    for _ in range(tries):
        step = drawn_step(chance, session, ballots)
        if step is not None:
            getattr(session, step[0])(*step[1])
    return session


def drawn_event(chance, model, ballots):
    """An event that may or may not be allowed; acceptances and confirmations with any set, if there is one."""
    node = chance.choice(sorted(model.nodes))
    mine = model.nodes[node]
    word = chance.choice(("voted", "received", "received", "received", "accepted", "confirmed"))
    if word == "received":
        sender = chance.choice(model.network.node_names())
        if sender in model.nodes:
            return (word, node, chance.choice(model.nodes[sender].messages[-3:]))
        return (word, node, drawn_message(chance, model.network, sender, ballots))
    statement = (chance.choice(ballots), chance.choice(ANSWERS))
    if word == "voted":
        return (word, node, *statement)
    sets = subsets(mine.nodes)
    if word == "confirmed":
        good = [nodes for nodes in sets if mine.ratifies(nodes, statement)]
        return (word, node, *statement, chance.choice(good or sets))
    reasons = [("support", nodes) for nodes in sets if mine.supports(nodes, statement)]
    reasons += [("blocking", nodes) for nodes in sets
                if set(nodes) <= set(mine.accepters(statement)) and is_blocked(mine.requirement, nodes)]
    return (word, node, *statement, chance.choice(reasons or [("support", (node,))]))


def drawn_history(chance, network, faulty, ballots, tries):
    """A valid history in which nodes accept and confirm at any time, either answer and with any set, or not at all."""
    model = Model(network, faulty)
    events = []
    for _ in range(tries if model.nodes else 0):
        event = drawn_event(chance, model, ballots)
        if model.allows(event):
            model.perform(event)
            events.append(event)
    return events
