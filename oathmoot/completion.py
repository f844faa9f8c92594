"""Completion: steps in which the nodes outside a tolerated set decide a value, without those inside."""

from oathmoot.attacks import steps_of
from oathmoot.errors import MootError, NoBallotLeft, NotTolerated
from oathmoot.exchange import exchange
from oathmoot.messages import LARGEST_NUMBER
from oathmoot.nodesets import is_within
from oathmoot.tolerance import honest_nodes, tolerates

SLOT_STEP_FORMS = (("nominate", 3), ("prepare", 4), ("commit", 4), ("receive", 3))


def is_slot_step(network, value):
    """Whether any value has the form of a slot step of a node; whether a slot can perform it is another question."""
    if not isinstance(value, tuple) or len(value) < 2:
        return False
    return (value[0], len(value)) in SLOT_STEP_FORMS and value[1] in network.node_names()


def perform_slot_step(slot, step):
    """Let a slot perform a slot step."""
    word, node, *entries = step
    if word == "nominate":
        slot.nominate(node, entries[0])
    elif word == "prepare":
        slot.prepare(node, entries[0], entries[1])
    elif word == "commit":
        slot.commit(node, entries[0], entries[1])
    else:
        slot.receive(node, entries[0])


def has_voted_last(slot, node):
    """Whether an honest node has voted on a ballot with the largest number."""
    return any([ballot[0] == LARGEST_NUMBER for ballot, answer in slot.votes_of(node)])


def is_unsettled(slot, node, ballot):
    """Whether an honest node has neither voted on a ballot nor accepted a statement for it."""
    statements = slot.votes_of(node) + slot.accepted_by(node)
    return all([settled != ballot for settled, answer in statements])


def value_to_decide(slot, nodes):
    """The value that these nodes can still decide after they have heard of each other."""
    commits = [ballot for name in nodes for ballot, answer in slot.votes_of(name) if answer == "commit"]
    if len(commits) == 0:
        return slot.slot_values()[0]
    # Who voted for the largest of these ballots has confirmed that all rivals below it are aborted, so the others
    # confirm this too; and no rival above it has a vote of these nodes, so they can abort those. If it has the
    # number 0, there are only nominations, and any value will do.
    return max(commits)[1]


def perform_round(slot, nodes, steps):
    """Let a slot perform the steps, and let the nodes exchange their messages; return all steps of the round."""
    for step in steps:
        perform_slot_step(slot, step)
    deliveries = steps_of(exchange(slot, nodes))
    return [*steps, *deliveries]


def completing_steps(slot, nodes):
    """Let these nodes of a slot, whose messages are enough for them, decide a value; return the steps."""
    first = perform_round(slot, nodes, [])
    value = value_to_decide(slot, nodes)
    nominations = [("nominate", name, value) for name in nodes if is_unsettled(slot, name, (0, value))]
    second = perform_round(slot, nodes, nominations)
    # None of these nodes has voted on a ballot with the largest number, so nothing stands against this one.
    third = perform_round(slot, nodes, [("prepare", name, LARGEST_NUMBER, value) for name in nodes])
    fourth = perform_round(slot, nodes, [("commit", name, LARGEST_NUMBER, value) for name in nodes])
    return (*first, *second, *third, *fourth)


def completion(slot, faulty):
    """Slot steps that complete a slot without the nodes in a tolerated set."""
    honest = honest_nodes(slot.network, faulty)
    if not tolerates(slot.network, faulty) or not is_within(slot.faulty, faulty):
        raise NotTolerated()
    if any([has_voted_last(slot, name) for name in honest]):
        raise NoBallotLeft()
    return completing_steps(slot.copy(), honest)


def is_completed(slot, nodes):
    """Whether these nodes are honest and have decided exactly one value, the same for all of them."""
    if any([name in slot.faulty for name in nodes]):
        return False
    decided = [slot.decided_by(name) for name in nodes]
    return all([len(values) == 1 and values == decided[0] for values in decided])


def can_perform_without(slot, faulty, step):
    """Let a slot perform any value as a slot step in which some nodes have no part; return whether it could."""
    if not is_slot_step(slot.network, step) or step[1] in faulty:
        return False
    try:
        perform_slot_step(slot, step)
    except MootError:
        return False
    return step[0] != "receive" or step[2][0] not in faulty


def is_completion(slot, faulty, steps):
    """Whether any value is a sequence of slot steps that completes a slot without the nodes in a set."""
    honest = honest_nodes(slot.network, faulty)
    if not isinstance(steps, (tuple, list)):
        return False
    twin = slot.copy()
    for step in steps:
        if not can_perform_without(twin, faulty, step):
            return False
    return is_completed(twin, honest)
