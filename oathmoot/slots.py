"""Slots: sessions in which the honest nodes decide on one of several values."""

from oathmoot.errors import DuplicateValue, InvalidMessage, InvalidName, InvalidNumber, NotNominated, NotPrepared
from oathmoot.errors import UnknownValue
from oathmoot.messages import LARGEST_NUMBER, is_message
from oathmoot.requirements import is_name, is_whole_number
from oathmoot.sessions import Session


def check_values(values):
    """Raise an exception for the first of the values that is not a name or occurred before."""
    for at, value in enumerate(values):
        if not is_name(value):
            raise InvalidName(value)
        if value in values[:at]:
            raise DuplicateValue(value)


class Slot:
    """A slot in a small network, of which some nodes are faulty."""

    def __init__(self, network, faulty, values):
        self.session = Session(network, faulty)
        check_values(values)
        self.network = self.session.network
        self.faulty = self.session.faulty
        self.choices = tuple(sorted(values))

    def __eq__(self, other):
        return isinstance(other, Slot) and self.choices == other.choices and self.session == other.session

    def __len__(self):
        return len(self.session)

    def slot_values(self):
        """The values of the slot in ascending order."""
        return self.choices

    def session_copy(self):
        """An independent copy of the session."""
        return self.session.copy()

    def copy(self):
        """An independent copy."""
        twin = Slot(self.network, self.faulty, self.choices)
        twin.session = self.session.copy()
        return twin

    def all_events(self):
        """All events so far."""
        return self.session.all_events()

    def messages_of(self, node):
        """All messages that an honest node can have sent so far, in the order in which they became possible."""
        return self.session.messages_of(node)

    def message_of(self, node):
        """The last message that an honest node can have sent."""
        return self.session.message_of(node)

    def votes_of(self, node):
        """The statements that an honest node voted for."""
        return self.session.votes_of(node)

    def accepted_by(self, node):
        """The statements that an honest node accepted."""
        return self.session.accepted_by(node)

    def confirmed_by(self, node):
        """The statements that an honest node confirmed."""
        return self.session.confirmed_by(node)

    def received_by(self, node):
        """What an honest node knows about other nodes: one message for each of them."""
        return self.session.received_by(node)

    def reason_of(self, node, ballot):
        """The reason for which an honest node accepted a statement for a ballot."""
        return self.session.reason_of(node, ballot)

    def check_value(self, value):
        """Raise UnknownValue if any value is not a value of the slot."""
        if value not in self.choices:
            raise UnknownValue(value)

    def check_ballot(self, node, number, value):
        """Raise an exception unless the node is honest and the other two, any values, make a ballot to be prepared."""
        self.network.check_honest(self.faulty, node)
        if not is_whole_number(number) or not 1 <= number <= LARGEST_NUMBER:
            raise InvalidNumber(number)
        self.check_value(value)

    def rival_ballots(self, ballot):
        """The ballots that must be aborted before this one, in ascending order."""
        number, value = ballot
        rivals = [(least, choice) for least in range(1, number + 1) for choice in self.choices if choice != value]
        return [rival for rival in rivals if rival < ballot]

    def has_aborted_rivals(self, node, ballot):
        """Whether an honest node has confirmed "abort" for all ballots that must be aborted before this one."""
        confirmed = self.session.confirmed_by(node)
        return all([(rival, "abort") in confirmed for rival in self.rival_ballots(ballot)])

    def nominate(self, node, value):
        """Let an honest node nominate a value."""
        self.network.check_honest(self.faulty, node)
        self.check_value(value)
        return self.session.vote(node, (0, value), "commit")

    def prepare(self, node, number, value):
        """Let an honest node vote against all smaller ballots with other values on which it still can vote."""
        self.check_ballot(node, number, value)
        statements = self.session.votes_of(node) + self.session.accepted_by(node)
        settled = [ballot for ballot, answer in statements]
        events = []
        for rival in self.rival_ballots((number, value)):
            if rival not in settled:
                events.extend(self.session.vote(node, rival, "abort"))
        return tuple(events)

    def commit(self, node, number, value):
        """Let an honest node vote for a ballot of a nominated value that is prepared for it."""
        self.check_ballot(node, number, value)
        ballot = (number, value)
        if value not in self.nominated_for(node):
            raise NotNominated(node, value)
        if not self.has_aborted_rivals(node, ballot):
            raise NotPrepared(node, ballot)
        return self.session.vote(node, ballot, "commit")

    def receive(self, node, message):
        """Let an honest node receive a message that speaks of no other values than those of the slot."""
        self.network.check_honest(self.faulty, node)
        if not is_message(self.network, message):
            raise InvalidMessage(message)
        for ballot, answer in message[2] + message[3]:
            if ballot[1] not in self.choices:
                raise InvalidMessage(message)
        return self.session.receive(node, message)

    def committed_ballots(self, node):
        """The ballots for which an honest node has confirmed "commit"."""
        return [ballot for ballot, answer in self.session.confirmed_by(node) if answer == "commit"]

    def nominated_for(self, node):
        """The values that are nominated for an honest node."""
        return tuple([value for number, value in self.committed_ballots(node) if number == 0])

    def is_prepared(self, node, number, value):
        """Whether a ballot is prepared for an honest node."""
        self.check_ballot(node, number, value)
        return self.has_aborted_rivals(node, (number, value))

    def decided_by(self, node):
        """The values that an honest node has decided."""
        return tuple(sorted({value for number, value in self.committed_ballots(node) if number > 0}))
