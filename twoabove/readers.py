"""What texts tell, read back: stores, and what belongs to a store."""

from twoabove.checks import is_board_of, is_counts_of, is_kind_list, is_lot_of, is_order_of, is_shelf_number
from twoabove.checks import is_weights_of
from twoabove.deeds import is_history
from twoabove.errors import InvalidText
from twoabove.grammar import told_by
from twoabove.stores import Store, check_store


def read_store(text):
    """The Store that the text tells."""
    shelves, deliveries, sales = told_by("store", text)
    _check_told(is_shelf_number(shelves))
    _check_told(is_kind_list(shelves, deliveries) and is_kind_list(shelves, sales))
    return Store(shelves, deliveries, sales)


def read_board(store, text):
    """The board of the store that the text tells."""
    board = _read("board", store, text)
    _check_told(is_board_of(store.shelves, board))
    return board


def read_lot(store, text):
    """The lot of the store's shelves that the text tells, rising."""
    lot = _read("lot", store, text)
    _check_told(is_lot_of(store.shelves, lot))
    return lot


def read_weights(store, text):
    """The weights of the store's shelves that the text tells."""
    weights = _read("weights", store, text)
    _check_told(is_weights_of(store.shelves, weights))
    return weights


def read_counts(store, text):
    """The counts of the store's delivery kinds that the text tells."""
    counts = _read("counts", store, text)
    _check_told(is_counts_of(len(store.deliveries()), counts))
    return counts


def read_order(store, text):
    """The order of the store's shelves that the text tells."""
    order = _read("order", store, text)
    _check_told(is_order_of(store.shelves, order))
    return order


def read_history(store, text):
    """The history of the store that the text tells."""
    history = _read("history", store, text)
    _check_told(is_history(store, history))
    return history


def _read(sort, store, text):
    check_store(store)
    return told_by(sort, text)


def _check_told(good):
    # A readable text that tells no such thing has no wrong position.
    if not good:
        raise InvalidText(None)
