"""Sandwiches: for each level of a board a flat lot between those who stand there and those one above."""

from twoabove.boards import falling_lots
from twoabove.checks import is_lot_list
from twoabove.deeds import played
from twoabove.flats import flat_lots
from twoabove.lots import is_within
from twoabove.stores import check_store


def is_sandwich(store, board, value):
    """Whether any value is a sandwich of the board."""
    choices = _choices(store, board)
    if not is_lot_list(store.shelves, value) or len(value) != len(choices):
        return False
    return all([sorted(lot) in lots for lot, lots in zip(value, choices)])


def board_sandwich(store, board):
    """A sandwich of the board; None if there is none."""
    choices = _choices(store, board)
    if [] in choices:
        return None
    return [list(lots[0]) for lots in choices]


def sandwich(store, history):
    """A sandwich of the board behind a history from the empty board."""
    check_store(store)
    return board_sandwich(store, played(store, [0] * store.shelves, history))


def _choices(store, board):
    # For each level from 0 to the height less 1 the flat lots that a sandwich may have there.
    highers = falling_lots(store, board)
    lowers = [list(range(store.shelves))] + highers
    flats = flat_lots(store)
    return [_flats_between(store, flats, higher, lower) for higher, lower in zip(highers, lowers)]


def _flats_between(store, flats, higher, lower):
    shelves = store.shelves
    return [lot for lot in flats if is_within(shelves, higher, lot) and is_within(shelves, lot, lower)]
