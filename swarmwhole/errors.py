"""All errors that the program raises."""


class SwarmError(ValueError):
    """The base class of all errors of the program."""


class BadOctets(SwarmError):
    """There are no such octets, or no such string, number or text of octets."""


class BadValue(SwarmError):
    """What was handed over is not a value."""


class BadKind(SwarmError):
    """What was handed over is not a kind of digests."""


class BadProof(SwarmError):
    """An index, a piece and a proof do not fit the root of a tree."""


class BadText(SwarmError):
    """Octets are not the text of a value: what stands at the place cannot stand there."""

    def __init__(self, place):
        self.place = place


class BadDescription(SwarmError):
    """What was handed over is not a description; the reason is a word of the document."""

    def __init__(self, reason):
        self.reason = reason


class BadContent(SwarmError):
    """Files, pieces or an index are not those of the content."""


class BadMessage(SwarmError):
    """What was handed over is not a message of the description, or not its octets."""


class DiskFell(SwarmError):
    """The disk has fallen."""


class BadPiece(SwarmError):
    """Octets and a proof do not fit a piece of the description."""


class BadSchedule(SwarmError):
    """A tick of a schedule is not a tuple of events; the tick is -1 if there are no ticks at all."""

    def __init__(self, tick):
        self.tick = tick


class BadSwarm(SwarmError):
    """What was handed over is not a world, or not its pieces."""


class BadRow(SwarmError):
    """What was handed over is not a row that may come next in a log."""


class BadCase(SwarmError):
    """What was handed over is not a case; the reason is a word of the document."""

    def __init__(self, reason):
        self.reason = reason


class BadEntry(SwarmError):
    """What was handed over is not an entry; the reason is a word of the document."""

    def __init__(self, reason):
        self.reason = reason


class BadHistory(SwarmError):
    """What was handed over is not a history: the number is that of the entry that is wrong."""

    def __init__(self, number, reason):
        self.number = number
        self.reason = reason


class BadKeeper(SwarmError):
    """A keeper cannot be opened or moved; the reason is a word of the document."""

    def __init__(self, reason):
        self.reason = reason


class BadPlan(SwarmError):
    """The files or the window of a plan are not as they must be."""
