"""The exceptions of the package, those of later files included."""


class MootError(ValueError):
    """What all exceptions of the package have in common, so that one handler can take them all."""


class InvalidName(MootError):
    """The value is not a name."""

    def __init__(self, value):
        self.value = value


class DuplicateNode(MootError):
    """A node of this name is there already."""

    def __init__(self, name):
        self.name = name


class InvalidRequirement(MootError):
    """What was stated for this node is not a requirement."""

    def __init__(self, name):
        self.name = name


class UnknownNode(MootError):
    """There is no node of this name."""

    def __init__(self, name):
        self.name = name


class InUse(MootError):
    """The requirement of the node `user` contains the name."""

    def __init__(self, name, user):
        self.name = name
        self.user = user


class DisjointQuorums(MootError):
    """Two quorums have no node in common."""

    def __init__(self, one, other):
        self.one = one
        self.other = other


class FaultyNode(MootError):
    """The node is faulty where an honest one is needed."""

    def __init__(self, name):
        self.name = name


class InvalidBallot(MootError):
    """The value is not a ballot."""

    def __init__(self, value):
        self.value = value


class InvalidAnswer(MootError):
    """The value is not an answer."""

    def __init__(self, value):
        self.value = value


class AlreadyVoted(MootError):
    """The node has voted on the ballot."""

    def __init__(self, name, ballot):
        self.name = name
        self.ballot = ballot


class AlreadyAccepted(MootError):
    """The node has accepted a statement for the ballot."""

    def __init__(self, name, ballot):
        self.name = name
        self.ballot = ballot


class InvalidMessage(MootError):
    """The value is not a message."""

    def __init__(self, value):
        self.value = value


class OwnMessage(MootError):
    """The node is both sender and receiver."""

    def __init__(self, name):
        self.name = name


class NotSent(MootError):
    """The honest sender cannot have sent the message."""

    def __init__(self, name):
        self.name = name


class NotAccepted(MootError):
    """The node has accepted no statement for the ballot."""

    def __init__(self, name, ballot):
        self.name = name
        self.ballot = ballot


class InvalidHistory(MootError):
    """The events are not a valid history."""


class OtherSender(MootError):
    """The message at this index has another sender than the first one."""

    def __init__(self, index):
        self.index = index


class DuplicateValue(MootError):
    """The value occurred before."""

    def __init__(self, value):
        self.value = value


class UnknownValue(MootError):
    """The value is not one of the slot's values."""

    def __init__(self, value):
        self.value = value


class InvalidNumber(MootError):
    """The value is not the number of a ballot that can be prepared."""

    def __init__(self, value):
        self.value = value


class NotNominated(MootError):
    """The value is not nominated for the node."""

    def __init__(self, name, value):
        self.name = name
        self.value = value


class NotPrepared(MootError):
    """The ballot is not prepared for the node."""

    def __init__(self, name, ballot):
        self.name = name
        self.ballot = ballot


class NotTolerated(MootError):
    """The network does not tolerate the faulty nodes."""


class NoBallotLeft(MootError):
    """The ballot numbers are used up."""


class UnknownSlot(MootError):
    """No slot of this name is open."""

    def __init__(self, name):
        self.name = name


class DuplicateSlot(MootError):
    """A slot of this name is open already."""

    def __init__(self, name):
        self.name = name


class NothingToUndo(MootError):
    """No operation is in effect."""


class NothingToRedo(MootError):
    """No operation was undone that can be performed again."""


class InvalidText(MootError):
    """The text is not the form of any such value."""

    def __init__(self, text):
        self.text = text


class InvalidLine(MootError):
    """The line at this index does not have the form of a node's line."""

    def __init__(self, index):
        self.index = index


class InvalidCommand(MootError):
    """The line is not a command."""

    def __init__(self, line):
        self.line = line
