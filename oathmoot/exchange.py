"""The exchange of messages among honest nodes."""

from oathmoot.errors import FaultyNode
from oathmoot.nodesets import node_set


def exchange_once(session, names):
    """One pass over all receivers and senders; return the events of its deliveries."""
    events = []
    for receiver in names:
        for sender in names:
            if sender == receiver:
                continue
            message = session.message_of(sender)
            if message not in session.received_by(receiver):
                events.extend(session.receive(receiver, message))
    return events


def exchange(session, nodes):
    """Let honest nodes exchange their messages until there is nothing new to deliver; return all events."""
    session.network.check_nodes(nodes)
    for name in nodes:
        if name in session.faulty:
            raise FaultyNode(name)
    names = node_set(nodes)
    events = []
    delivered = exchange_once(session, names)
    while len(delivered) > 0:
        events.extend(delivered)
        delivered = exchange_once(session, names)
    return tuple(events)
