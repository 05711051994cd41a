"""What the functions of the package ask of the values that they are passed.

This file does not know the class Store: it takes numbers of shelves and lists
of kinds, so that the file of Store can use it as all others do.
"""

from twoabove.basics import is_count, is_integer
from twoabove.errors import InvalidCounts, InvalidKind, InvalidLot, InvalidOrder, InvalidPosition
from twoabove.errors import InvalidShelf, InvalidShelves, InvalidWeights, InvalidWished

FEWEST_SHELVES = 2
MOST_SHELVES = 8
MOST_KINDS = 8
MOST_PIECES = 60
MOST_COUNT = 20


def is_list(value):
    """Whether any value is a list, or the tuple that is accepted in its place."""
    return isinstance(value, (list, tuple))


def is_count_to(value, most):
    """Whether any value is a COUNT of at most so many."""
    return is_count(value) and value <= most


def is_count_below(value, many):
    """Whether any value is a COUNT below so many: a shelf, or a position."""
    return is_count(value) and value < many


def is_shelf_number(value):
    """Whether any value is a number of shelves that a store may have."""
    return is_count_to(value, MOST_SHELVES) and value >= FEWEST_SHELVES


def is_lot_of(shelves, value):
    """Whether any value is a lot of so many shelves."""
    if not is_list(value):
        return False
    if not all([is_count_below(shelf, shelves) for shelf in value]):
        return False
    return len(set(value)) == len(value)


def is_lot_list(shelves, value):
    """Whether any value is a list of lots of so many shelves."""
    return is_list(value) and all([is_lot_of(shelves, lot) for lot in value])


def is_kind_of(shelves, value):
    """Whether any value is a kind of so many shelves."""
    return is_lot_of(shelves, value) and len(value) > 0


def is_kind_list(shelves, value):
    """Whether any value is a list of as many kinds of these shelves as a store may be told."""
    if not is_list(value) or len(value) > MOST_KINDS:
        return False
    return all([is_kind_of(shelves, kind) for kind in value])


def is_board_of(shelves, value):
    """Whether any value is a board of so many shelves."""
    if not is_list(value) or len(value) != shelves:
        return False
    return all([is_count_to(pieces, MOST_PIECES) for pieces in value])


def is_weights_of(shelves, value):
    """Whether any value is a list of an INTEGER for each of so many shelves."""
    if not is_list(value) or len(value) != shelves:
        return False
    return all([is_integer(weight) for weight in value])


def is_order_of(shelves, value):
    """Whether any value is a list of all of so many shelves, each once."""
    return is_lot_of(shelves, value) and len(value) == shelves


def is_pair_of(shelves, value):
    """Whether any value is a list of two unlike shelves of so many."""
    return is_lot_of(shelves, value) and len(value) == 2


def is_counts_of(many, value):
    """Whether any value is a list of a COUNT of deliveries for each of so many delivery kinds."""
    if not is_list(value) or len(value) != many:
        return False
    return all([is_count_to(count, MOST_COUNT) for count in value])


def is_nowhere_below(board, value):
    """Whether any value is a board of as many shelves that holds on each at least what the board does."""
    return is_board_of(len(board), value) and all([more >= pieces for more, pieces in zip(value, board)])


def is_wished_of(board, counts, value):
    """Whether any value is a board to which so many deliveries could lead from the board, by its numbers alone."""
    return is_nowhere_below(board, value) and sum(value) == sum(board) + sum(counts)


def check_shelf_number(value):
    if not is_shelf_number(value):
        raise InvalidShelves(value)


def check_lot(shelves, value):
    if not is_lot_of(shelves, value):
        raise InvalidLot(value)


def check_kind(shelves, value):
    if not is_kind_of(shelves, value):
        raise InvalidKind(value)


def check_order(shelves, value):
    if not is_order_of(shelves, value):
        raise InvalidOrder(value)


def check_position(kinds, value):
    if not is_count_below(value, len(kinds)):
        raise InvalidPosition(value)


def check_shelf(shelves, value):
    if not is_count_below(value, shelves):
        raise InvalidShelf(value)


def check_pair(shelves, shelf, other):
    """Both are shelves, and the other one is another one."""
    check_shelf(shelves, shelf)
    check_shelf(shelves, other)
    if other == shelf:
        raise InvalidShelf(other)


def check_weights(shelves, value):
    if not is_weights_of(shelves, value):
        raise InvalidWeights(value)


def check_wished(shelves, value):
    if not is_board_of(shelves, value):
        raise InvalidWished(value)


def check_counts(kinds, value):
    if not is_counts_of(len(kinds), value):
        raise InvalidCounts(value)
