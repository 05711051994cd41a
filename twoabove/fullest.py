"""The other custom, to the fullest: whether a board comes, by a peeling or by a stuck lot."""

from twoabove.basics import is_count
from twoabove.boards import check_board
from twoabove.checks import check_position, check_wished, is_count_below, is_list, is_lot_of
from twoabove.deeds import MOST_DEEDS
from twoabove.errors import TooMany
from twoabove.stores import check_store


def most_shelves(store, board, position):
    """The lot of the shelves that may get the piece of a delivery of the kind."""
    check_board(store, board)
    kinds = store.deliveries()
    check_position(kinds, position)
    most = max([board[shelf] for shelf in kinds[position]])
    return [shelf for shelf in kinds[position] if board[shelf] == most]


def comes_fullest(store, wished):
    """Whether deliveries to the fullest lead from the empty board to the wished one."""
    return stuck(store, wished) is None


def peeling(store, wished):
    """All filled shelves, each with a kind that names it and none of those ahead; None if the board does not come."""
    row, left = _peeled(store, wished)
    if left:
        return None
    return row


def is_peeling(store, wished, value):
    """Whether any value is a peeling of the board."""
    filled = _filled(store, wished)
    kinds = store.deliveries()
    if not is_list(value) or not all([_is_pair(kinds, pair) for pair in value]):
        return False
    row = [shelf for shelf, _ in value]
    if sorted(row) != filled:
        return False
    return all([_common(row[:at + 1], kinds[position]) == [shelf] for at, (shelf, position) in enumerate(value)])


def stuck(store, wished):
    """Filled shelves none of which is the only one of them that some delivery kind names; None if the board comes."""
    left = _peeled(store, wished)[1]
    if left:
        return left
    return None


def is_stuck(store, wished, value):
    """Whether any value is a stuck lot of the board."""
    filled = _filled(store, wished)
    if not is_lot_of(store.shelves, value) or len(value) == 0:
        return False
    if not all([shelf in filled for shelf in value]):
        return False
    return all([len(_common(value, kind)) != 1 for kind in store.deliveries()])


def fullest_way(store, wished):
    """Tuples of a position and a shelf that lead to the board one behind the other; None if it does not come."""
    row = peeling(store, wished)
    if row is None:
        return None
    if sum(wished) > MOST_DEEDS:
        raise TooMany("deeds", MOST_DEEDS)
    # One shelf behind the other: its kind names none of those that hold something by then.
    return [(position, shelf) for shelf, position in row for _ in range(wished[shelf])]


def _filled(store, wished):
    check_store(store)
    check_wished(store.shelves, wished)
    return [shelf for shelf, pieces in enumerate(wished) if pieces > 0]


def _peeled(store, wished):
    # The row from its end on: who is the only one left of some kind can be the last; and who cannot be put in it.
    left = _filled(store, wished)
    row = []
    last = _only_one(store, left)
    while last is not None:
        row.append(last)
        left = [shelf for shelf in left if shelf != last[0]]
        last = _only_one(store, left)
    return row[::-1], left


def _only_one(store, left):
    for position, kind in enumerate(store.deliveries()):
        inside = _common(left, kind)
        if len(inside) == 1:
            return inside[0], position
    return None


def _common(shelves, kind):
    return [shelf for shelf in shelves if shelf in kind]


def _is_pair(kinds, value):
    if not isinstance(value, tuple) or len(value) != 2:
        return False
    shelf, position = value
    return is_count(shelf) and is_count_below(position, len(kinds))
