"""Attacks: what faulty nodes can do to honest ones, and what honest ones can do without the faulty ones."""

from oathmoot.errors import MootError
from oathmoot.exchange import exchange
from oathmoot.messages import ANSWERS
from oathmoot.nodesets import names_outside, node_set
from oathmoot.quorums import removal_order
from oathmoot.sessions import Session
from oathmoot.tolerance import dependent_nodes, honest_nodes, tolerance

MOST_STEPS = 200
STEP_FORMS = (("vote", 4), ("receive", 3))
# Ballots do not affect each other, so one ballot is enough for all that is to be shown here.
BALLOT = (1, "x")


def is_step(network, value):
    """Whether any value has the form of a step of a node; whether a session can perform it is another question."""
    if not isinstance(value, tuple) or len(value) < 2:
        return False
    return (value[0], len(value)) in STEP_FORMS and value[1] in network.node_names()


def perform_step(session, step):
    """Let a session perform a step."""
    if step[0] == "vote":
        node, ballot, answer = step[1:]
        session.vote(node, ballot, answer)
    else:
        node, message = step[1:]
        session.receive(node, message)


def session_after(network, faulty, steps):
    """A new session that has performed the steps, None if any value is not a short sequence of possible steps."""
    session = Session(network, faulty)
    if not isinstance(steps, (tuple, list)) or len(steps) > MOST_STEPS:
        return None
    for step in steps:
        if not is_step(network, step):
            return None
        try:
            perform_step(session, step)
        except MootError:
            return None
    return session


def steps_of(events):
    """The steps to which these events of a session belong."""
    steps = []
    for event in events:
        word, *entries = event
        if word == "voted":
            steps.append(("vote", *entries))
        elif word == "received":
            steps.append(("receive", *entries))
    return tuple(steps)


def is_misled(session, node):
    """Whether an honest node has accepted a statement for which no honest node voted."""
    votes = [statement for name in session.members for statement in session.votes_of(name)]
    return any([statement not in votes for statement in session.accepted_by(node)])


def has_two_answers(session):
    """Whether two honest nodes have accepted different answers for one ballot."""
    accepted = [statement for name in session.members for statement in session.accepted_by(name)]
    return any([all([(ballot, word) in accepted for word in ANSWERS]) for ballot, answer in accepted])


def misleading_steps(network, faulty, order):
    """Steps in which these nodes accept, one after another, what only the faulty ones and those before them accept."""
    senders = node_set(faulty)
    steps = []
    for node in order:
        for sender in senders:
            message = (sender, network.requirement_of(sender), (), ((BALLOT, "commit"),))
            steps.append(("receive", node, message))
        senders = (*senders, node)
    return tuple(steps)


def convincing_steps(network, faulty, quorum, answer):
    """Steps in which a quorum votes for an answer and its first node accepts it with the help of the faulty ones."""
    votes = ((BALLOT, answer),)
    first, *others = quorum
    # A faulty node that claims to need nobody but itself fits into every set.
    messages = [(name, (1, (name,)), votes, ()) for name in node_set(faulty)]
    messages.extend([(name, network.requirement_of(name), votes, ()) for name in others])
    steps = [("vote", name, BALLOT, answer) for name in quorum]
    steps.extend([("receive", first, message) for message in messages])
    return steps


def attack(network, faulty):
    """An attack on a small network by a node set, None if the network tolerates the set."""
    found = tolerance(network, faulty)
    if found[0] == "tolerated":
        return None
    if found[0] == "dependent":
        return misleading_steps(network, faulty, [found[1]])
    one, other = found[1:]
    commits = convincing_steps(network, faulty, one, "commit")
    aborts = convincing_steps(network, faulty, other, "abort")
    return (*commits, *aborts)


def is_attack(network, faulty, steps):
    """Whether any value is an attack on a small network by a node set."""
    session = session_after(network, faulty, steps)
    if session is None:
        return False
    return has_two_answers(session) or any([is_misled(session, name) for name in session.members])


def mislead(network, faulty, node):
    """Steps after which an honest node has accepted what no honest node voted for, None if there are none."""
    network.check_honest(faulty, node)
    # Each of these nodes is blocked by the faulty ones together with those that are removed before it.
    order = removal_order(network, honest_nodes(network, faulty))
    if node not in order:
        return None
    return misleading_steps(network, faulty, order[:order.index(node) + 1])


def misleads(network, faulty, node, steps):
    """Whether any value is a sequence of steps with this effect."""
    network.check_honest(faulty, node)
    session = session_after(network, faulty, steps)
    return session is not None and is_misled(session, node)


def confirm_alone(network, faulty, node):
    """Steps after which an honest node has confirmed a statement without the faulty ones, None if there are none."""
    network.check_honest(faulty, node)
    independent = names_outside(honest_nodes(network, faulty), dependent_nodes(network, faulty))
    if node not in independent:
        return None
    session = Session(network, faulty)
    for name in independent:
        session.vote(name, BALLOT, "commit")
    exchange(session, independent)
    return steps_of(session.all_events())


def confirms_alone(network, faulty, node, steps):
    """Whether any value is a sequence of steps with this effect."""
    network.check_honest(faulty, node)
    session = session_after(network, faulty, steps)
    if session is None:
        return False
    if any([step[0] == "receive" and step[2][0] in faulty for step in steps]):
        return False
    return len(session.confirmed_by(node)) > 0
