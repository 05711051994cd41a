"""Rows of steps that are blown up to histories."""

from twoabove.checks import is_count_to
from twoabove.deeds import MOST_DEEDS
from twoabove.errors import InvalidHeight, TooMany
from twoabove.lots import common, without
from twoabove.rows import check_row, step_kind, step_lot

MOST_HEIGHT = 9


def blown(store, row, height):
    """A history that blows the row up to the height, from the empty board."""
    check_row(store, row)
    if not is_count_to(height, MOST_HEIGHT):
        raise InvalidHeight(height)
    history = []
    lot = []
    for step in row:
        history.extend(_blown_step(store, lot, step, height))
        lot = step_lot(store, lot, step)
    if len(history) > MOST_DEEDS:
        raise TooMany("deeds", MOST_DEEDS)
    return history


def _blown_step(store, lot, step, height):
    # One piece for each of the shelves in turn: so they stay alike, and each is least, or most, when its turn comes.
    word, position = step
    if word == "lay":
        laid = without(store.shelves, step_kind(store, step), lot)
        return [("put", position, shelf) for shelf in laid] * height
    cleared = common(store.shelves, step_kind(store, step), lot)
    return [("take", position, shelf) for shelf in cleared] * height
