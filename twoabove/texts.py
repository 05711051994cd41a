"""Stores, boards, lots, weights, counts, orders and histories, written as texts."""

from twoabove.boards import check_board
from twoabove.checks import check_counts, check_lot, check_order, check_weights
from twoabove.deeds import check_history
from twoabove.stores import check_store

NONE = "-"


def store_text(store):
    """The store: its shelves, its delivery kinds and its sale kinds."""
    check_store(store)
    return f"{store.shelves}: {_kinds_text(store.deliveries())} / {_kinds_text(store.sales())}"


def board_text(store, board):
    """How many pieces each shelf holds."""
    check_board(store, board)
    return numbers_text(board)


def lot_text(store, lot):
    """The lot, rising."""
    check_store(store)
    check_lot(store.shelves, lot)
    return numbers_text(sorted(lot))


def weights_text(store, weights):
    """The weight of each shelf."""
    check_store(store)
    check_weights(store.shelves, weights)
    return numbers_text(weights)


def counts_text(store, counts):
    """The count of each delivery kind."""
    check_store(store)
    check_counts(store.deliveries(), counts)
    return numbers_text(counts)


def order_text(store, order):
    """The shelves as they stand in the order."""
    check_store(store)
    check_order(store.shelves, order)
    return numbers_text(order)


def history_text(store, history):
    """The deeds of the history."""
    check_store(store)
    check_history(store, history)
    if len(history) == 0:
        return NONE
    return ", ".join([_deed_text(deed) for deed in history])


def numbers_text(numbers):
    """Any list of numbers."""
    if len(numbers) == 0:
        return NONE
    return ", ".join([str(number) for number in numbers])


def _kinds_text(kinds):
    if len(kinds) == 0:
        return NONE
    return "; ".join([_kind_text(kind) for kind in kinds])


def _kind_text(kind):
    return ",".join([str(shelf) for shelf in kind])


def _deed_text(deed):
    if deed[0] == "miss":
        return f"miss {deed[1]}"
    return f"{deed[0]} {deed[1]}>{deed[2]}"
