"""The errors that the package raises."""


class BridgeError(ValueError):
    """The base class of all errors of the package."""


class InvalidTown(BridgeError):
    """A town has a wrong number of places, or a wrong bridge."""

    def __init__(self, part, index):
        BridgeError.__init__(self, f"invalid town: {part}, index {index}")
        self.part = part
        self.index = index


class InvalidText(BridgeError):
    """A line of a text is not formed as it should be."""

    def __init__(self, row):
        BridgeError.__init__(self, f"invalid text: row {row}")
        self.row = row


class InvalidTrips(BridgeError):
    """A round has a wrong number of trips, or a wrong trip."""

    def __init__(self, index):
        BridgeError.__init__(self, f"invalid trips: index {index}")
        self.index = index


class InvalidCount(BridgeError):
    """A number of something is out of range."""


class InvalidLife(BridgeError):
    """The life of a bridge would be too great."""


class InvalidLoad(BridgeError):
    """A load is out of range."""


class UnknownPlace(BridgeError):
    """A town has no place with a number."""


class UnknownBridge(BridgeError):
    """A town has no bridge with a number."""


class UnknownKind(BridgeError):
    """A round has no trip with an index."""


class TooManyBridges(BridgeError):
    """A town has more bridges than can be searched."""


class DifferentTowns(BridgeError):
    """Towns differ in their number of places or of bridges."""


class Contradiction(BridgeError):
    """An observation would leave no candidate."""


class InvalidWork(BridgeError):
    """A work has a number out of range, or a schedule has too many of them."""

    def __init__(self, index):
        BridgeError.__init__(self, f"invalid work: index {index}")
        self.index = index


class NoTransaction(BridgeError):
    """No transaction is there to be closed."""


class InvalidData(BridgeError):
    """The bytes of an encoded town are wrong."""

    def __init__(self, offset):
        BridgeError.__init__(self, f"invalid data: offset {offset}")
        self.offset = offset
