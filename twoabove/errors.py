"""The errors of the package: each kind of failure has a class of its own."""


class StoreError(ValueError):
    """A value is not what its parameter wants."""


class InvalidBoard(StoreError):
    """No board."""

    def __init__(self, value):
        self.value = value


class InvalidCounts(StoreError):
    """No counts of deliveries."""

    def __init__(self, value):
        self.value = value


class InvalidHistory(StoreError):
    """No history."""

    def __init__(self, value):
        self.value = value


class InvalidKind(StoreError):
    """No kind."""

    def __init__(self, value):
        self.value = value


class InvalidLot(StoreError):
    """No lot."""

    def __init__(self, value):
        self.value = value


class InvalidOrder(StoreError):
    """No order of the shelves."""

    def __init__(self, value):
        self.value = value


class InvalidPosition(StoreError):
    """No position of a kind."""

    def __init__(self, value):
        self.value = value


class InvalidRow(StoreError):
    """No row of steps."""

    def __init__(self, value):
        self.value = value


class InvalidShelf(StoreError):
    """No shelf."""

    def __init__(self, value):
        self.value = value


class InvalidShelves(StoreError):
    """No number of shelves."""

    def __init__(self, value):
        self.value = value


class InvalidStore(StoreError):
    """No Store."""

    def __init__(self, value):
        self.value = value


class InvalidWeights(StoreError):
    """No weights."""

    def __init__(self, value):
        self.value = value


class InvalidWished(StoreError):
    """No wished board."""

    def __init__(self, value):
        self.value = value


class InvalidChanges(StoreError):
    """No changes of the store."""

    def __init__(self, value):
        self.value = value


class InvalidClaim(StoreError):
    """No claim."""

    def __init__(self, value):
        self.value = value


class InvalidCommand(StoreError):
    """No command."""

    def __init__(self, value):
        self.value = value


class InvalidDeed(StoreError):
    """No deed."""

    def __init__(self, value):
        self.value = value


class InvalidDeliveries(StoreError):
    """No delivery kinds."""

    def __init__(self, value):
        self.value = value


class InvalidHeight(StoreError):
    """No height."""

    def __init__(self, value):
        self.value = value


class InvalidLevel(StoreError):
    """No level."""

    def __init__(self, value):
        self.value = value


class InvalidLines(StoreError):
    """No lines of deeds."""

    def __init__(self, position):
        self.position = position


class InvalidLots(StoreError):
    """No lots."""

    def __init__(self, value):
        self.value = value


class InvalidNumber(StoreError):
    """No number of a board."""

    def __init__(self, value):
        self.value = value


class InvalidPaper(StoreError):
    """No paper."""

    def __init__(self, value):
        self.value = value


class InvalidPositions(StoreError):
    """No positions of delivery kinds."""

    def __init__(self, value):
        self.value = value


class InvalidSales(StoreError):
    """No sale kinds."""

    def __init__(self, value):
        self.value = value


class InvalidText(StoreError):
    """No readable text."""

    def __init__(self, position):
        self.position = position


class InvalidTotal(StoreError):
    """No total."""

    def __init__(self, value):
        self.value = value


class MissingError(LookupError):
    """Nothing is kept or noted under the value."""


class UnknownLabel(MissingError):
    """No claim is noted under it."""

    def __init__(self, value):
        self.value = value


class UnknownName(MissingError):
    """Nothing is kept under it."""

    def __init__(self, value):
        self.value = value


class StateError(RuntimeError):
    """As things are, it cannot be done."""


class UnlikeShelves(StateError):
    """Two stores have unlike numbers of shelves."""


class BarredAt(StateError):
    """The deed at the position is not by the custom."""

    def __init__(self, position):
        self.position = position


class CommandFailed(StateError):
    """The command at the position failed."""

    def __init__(self, position):
        self.position = position


class LabelTaken(StateError):
    """A claim is noted under the label."""

    def __init__(self, label):
        self.label = label


class NameTaken(StateError):
    """Something is kept under the name."""

    def __init__(self, name):
        self.name = name


class NotBelow(StateError):
    """The weights do not stay below."""


class NotCome(StateError):
    """The board cannot come."""


class NotCustom(StateError):
    """The deed is not by the custom."""


class NothingToRedo(StateError):
    """No deed that was taken back is left."""


class NothingToUndo(StateError):
    """No deed is left to take back."""


class LimitError(ArithmeticError):
    """There are more than the limit lets."""


class TooMany(LimitError):
    """More of what is told than the limit."""

    def __init__(self, what, limit):
        self.what = what
        self.limit = limit
