"""Whether an honest node can have sent given messages: a history in which it does, or the reason why it cannot."""

from oathmoot.errors import InvalidMessage, OtherSender
from oathmoot.histories import members_after
from oathmoot.messages import ANSWERS, is_message
from oathmoot.nodesets import is_within, names_outside, node_set
from oathmoot.quorums import largest_quorum
from oathmoot.requirements import blocks


def quorum_without(network, faulty, node):
    """The largest quorum of the nodes other than a given one and the faulty ones."""
    others = names_outside(network.node_names(), [*faulty, node])
    return largest_quorum(network, others, faulty=faulty)


def first_blocked(network, names, nodes):
    """The first of the names whose requirement is blocked by a set of nodes, None if there is none."""
    for name in names:
        if blocks(network.requirement_of(name), nodes):
            return name
    return None


def blocked_order(network, faulty, node, quorum):
    """The other followers than the quorum, each after those that block it together with faulty nodes and quorum."""
    blocking = [*faulty, *quorum]
    waiting = names_outside(network.node_names(), [*blocking, node])
    order = []
    name = first_blocked(network, waiting, blocking)
    while name is not None:
        order.append(name)
        waiting = names_outside(waiting, [name])
        name = first_blocked(network, waiting, [*blocking, *order])
    return order


def followers(network, faulty, node):
    """The honest nodes that can accept a statement without the given node, with the help of the faulty ones."""
    network.check_honest(faulty, node)
    quorum = quorum_without(network, faulty, node)
    blocked = blocked_order(network, faulty, node, quorum)
    return node_set([*quorum, *blocked])


def check_messages(network, faulty, messages):
    """Raise an exception unless the values are messages, all of one node that is not faulty."""
    for message in messages:
        if not is_message(network, message):
            raise InvalidMessage(message)
    sender = messages[0][0]
    network.check_honest(faulty, sender)
    for at, message in enumerate(messages):
        if message[0] != sender:
            raise OtherSender(at)


def contains(large, small):
    """Whether a message contains the votes and accepts of another one."""
    return is_within(small[2], large[2]) and is_within(small[3], large[3])


def ballots_of(statements):
    """The ballots of the statements, in ascending order."""
    return sorted({ballot for ballot, answer in statements})


def wrong_requirements(network, messages):
    """The tuples ("requirement", i) that apply."""
    requirement = network.requirement_of(messages[0][0])
    return [("requirement", at) for at, message in enumerate(messages) if message[1] != requirement]


def wrong_orders(messages):
    """The tuples ("order", i, j) that apply."""
    found = []
    for j, later in enumerate(messages):
        for i, earlier in enumerate(messages[:j]):
            if not contains(later, earlier) and not contains(earlier, later):
                found.append(("order", i, j))
    return found


def has_both_answers(statements, ballot):
    """Whether the statements contain both answers of a ballot."""
    return is_within([(ballot, answer) for answer in ANSWERS], statements)


def contradictions(messages):
    """The tuples ("contradiction", i, ballot) that apply."""
    found = []
    for i, message in enumerate(messages):
        for statements in message[2:]:
            for ballot in ballots_of(statements):
                if has_both_answers(statements, ballot):
                    found.append(("contradiction", i, ballot))
    return found


def late_votes(messages):
    """The tuples ("late", i, j, ballot) that apply."""
    found = []
    for i, accepting in enumerate(messages):
        own = ballots_of(accepting[2])
        unvoted = [ballot for ballot in ballots_of(accepting[3]) if ballot not in own]
        for j, voting in enumerate(messages):
            voted = ballots_of(voting[2])
            found.extend([("late", i, j, ballot) for ballot in unvoted if ballot in voted])
    return found


def unvoted_accepts(message):
    """The statements that a message accepts without voting for them."""
    return tuple([statement for statement in message[3] if statement not in message[2]])


def missing_causes(network, faulty, messages):
    """The tuples ("cause", i, ballot) that apply."""
    sender = messages[0][0]
    following = followers(network, faulty, sender)
    if blocks(network.requirement_of(sender), [*faulty, *following]):
        return []
    found = []
    for i, message in enumerate(messages):
        found.extend([("cause", i, ballot) for ballot, answer in unvoted_accepts(message)])
    return found


def first_obstacle(network, faulty, messages):
    """The first tuple that applies, because of which an honest node cannot have sent the messages; None without one."""
    kinds = (
        wrong_requirements(network, messages),
        wrong_orders(messages),
        contradictions(messages),
        late_votes(messages),
        missing_causes(network, faulty, messages),
    )
    for found in kinds:
        if len(found) > 0:
            return min(found)
    return None


class Story:
    """A history in the making, in which all other nodes agree to what the sender of the messages is to accept."""

    def __init__(self, network, faulty, sender, statements):
        self.network = network
        self.faulty = node_set(faulty)
        self.sender = sender
        self.events = []
        # The last message of each other node. A faulty one that claims to need only itself fits into every set.
        self.latest = {name: (name, (1, (name,)), (), statements) for name in self.faulty}
        for name in names_outside(network.node_names(), [*faulty, sender]):
            self.latest[name] = (name, network.requirement_of(name), statements, ())
            self.events.extend([("voted", name, *statement) for statement in statements])

    def deliver(self, receiver, senders):
        """Let a node receive the last messages of others."""
        self.events.extend([("received", receiver, self.latest[name]) for name in senders if name != receiver])

    def let_accept(self, name, statements, reason):
        """Let a node other than the sender accept statements for a reason."""
        self.events.extend([("accepted", name, *statement, reason) for statement in statements])
        requirement, votes = self.latest[name][1:3]
        self.latest[name] = (name, requirement, votes, statements)

    def lead_followers(self, statements):
        """Let the followers accept statements, and return them together with the faulty nodes."""
        quorum = quorum_without(self.network, self.faulty, self.sender)
        agreeing = node_set([*self.faulty, *quorum])
        for name in quorum:
            self.deliver(name, agreeing)
            self.let_accept(name, statements, ("support", agreeing))
        for name in blocked_order(self.network, self.faulty, self.sender, quorum):
            self.deliver(name, agreeing)
            self.let_accept(name, statements, ("blocking", agreeing))
            agreeing = node_set([*agreeing, name])
        return agreeing

    def lead_sender(self, previous, message, blocking):
        """Let the sender do what leads from one of its messages to the next one."""
        votes = [statement for statement in message[2] if statement not in previous[2]]
        accepts = [statement for statement in message[3] if statement not in previous[3]]
        self.events.extend([("voted", self.sender, *statement) for statement in votes])
        for statement in accepts:
            reason = ("blocking", blocking)
            if statement in message[2]:
                reason = ("support", self.network.node_names())
            self.events.append(("accepted", self.sender, *statement, reason))


def message_size(message):
    """How many statements a message contains."""
    return len(message[2]) + len(message[3])


def history_with(network, faulty, messages):
    """A valid history in which the honest sender sends all these messages, to which there is no obstacle."""
    chain = sorted(messages, key=message_size)
    sender, requirement, votes, accepts = chain[-1]
    story = Story(network, faulty, sender, accepts)
    unvoted = unvoted_accepts(chain[-1])
    blocking = story.lead_followers(unvoted) if len(unvoted) > 0 else ()
    story.deliver(sender, network.node_names())
    previous = (sender, requirement, (), ())
    for message in chain:
        story.lead_sender(previous, message, blocking)
        previous = message
    return tuple(story.events)


def explain_messages(network, faulty, messages):
    """("possible", events) with a history in which the sender sends the messages, or the reason why there is none."""
    network.check_nodes(faulty)
    if len(messages) == 0:
        return ("possible", ())
    check_messages(network, faulty, messages)
    obstacle = first_obstacle(network, faulty, messages)
    if obstacle is not None:
        return obstacle
    return ("possible", history_with(network, faulty, messages))


def explains(network, faulty, messages, events):
    """Whether any value is a valid history in which honest senders can have sent all these messages."""
    network.check_nodes(faulty)
    members = members_after(network, faulty, events)
    if members is None:
        return False
    return all([message[0] in members and members[message[0]].can_have_sent(message) for message in messages])
