"""Boards: how many pieces each shelf holds, level by level, and least and most."""

from twoabove.basics import is_count
from twoabove.checks import MOST_PIECES, check_kind, is_board_of, is_lot_list
from twoabove.errors import InvalidBoard, InvalidLevel, InvalidLots
from twoabove.lots import is_within
from twoabove.stores import check_store


def is_board(store, value):
    """Whether any value is a board of the store."""
    check_store(store)
    return is_board_of(store.shelves, value)


def check_board(store, board):
    """The store is a Store, and the board one of it."""
    if not is_board(store, board):
        raise InvalidBoard(board)


def total(store, board):
    """The number of the board's pieces."""
    check_board(store, board)
    return sum(board)


def height(store, board):
    """The greatest number that a shelf holds."""
    check_board(store, board)
    return max(board)


def level_lot(store, board, level):
    """The lot of the shelves that stand at the level."""
    check_board(store, board)
    if not is_count(level):
        raise InvalidLevel(level)
    return [shelf for shelf, pieces in enumerate(board) if pieces >= level]


def falling_lots(store, board):
    """The lots that stand at the levels 1, 2, .. up to the board's height."""
    return [level_lot(store, board, level + 1) for level in range(height(store, board))]


def board_of(store, lots):
    """The board at whose levels 1, 2, .. these lots stand."""
    check_store(store)
    if not _are_falling(store.shelves, lots):
        raise InvalidLots(lots)
    return [len([lot for lot in lots if shelf in lot]) for shelf in range(store.shelves)]


def least_of(store, board, kind):
    """The lot of the kind's shelves that hold least of them."""
    check_board(store, board)
    check_kind(store.shelves, kind)
    least = min([board[shelf] for shelf in kind])
    return sorted([shelf for shelf in kind if board[shelf] == least])


def most_of(store, board, kind):
    """The lot of the kind's shelves that hold most of them; none if all hold 0."""
    check_board(store, board)
    check_kind(store.shelves, kind)
    most = max([board[shelf] for shelf in kind])
    if most == 0:
        return []
    return sorted([shelf for shelf in kind if board[shelf] == most])


def _are_falling(shelves, value):
    # No more lots than a board has levels, each within the one ahead.
    if not is_lot_list(shelves, value) or len(value) > MOST_PIECES:
        return False
    return all([is_within(shelves, lot, ahead) for ahead, lot in zip(value, value[1:])])
