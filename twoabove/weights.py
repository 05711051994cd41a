"""Weights: whether a weighted sum of what the shelves hold stays below some number, with papers for yes and for no."""

from twoabove.checks import check_lot, check_weights
from twoabove.errors import NotBelow
from twoabove.flats import flat_lots, is_closed
from twoabove.rows import flat_row, is_row, row_lot
from twoabove.stores import check_store


def lot_weight(store, weights, lot):
    """The weight of the lot."""
    _check_weighed(store, weights)
    check_lot(store.shelves, lot)
    return _weight(weights, lot)


def stays_below(store, weights):
    """Whether there is a number that the weighted sum never passes."""
    return _heavy_lots(store, weights) == []


def closed_paper(store, weights):
    """A closed family of lots none of which has a weight above 0; None if there is none."""
    if not stays_below(store, weights):
        return None
    return flat_lots(store)


def is_closed_paper(store, weights, value):
    """Whether any value is a closed family of lots none of which has a weight above 0."""
    _check_weighed(store, weights)
    return is_closed(store, value) and all([_weight(weights, lot) <= 0 for lot in value])


def rising_row(store, weights):
    """A row that ends with a lot of a weight above 0; None if there is none."""
    heavy = _heavy_lots(store, weights)
    if heavy == []:
        return None
    return flat_row(store, heavy[0])


def is_rising_row(store, weights, value):
    """Whether any value is a row that ends with a lot of a weight above 0."""
    _check_weighed(store, weights)
    return is_row(store, value) and _weight(weights, row_lot(store, value)) > 0


def bound(store, weights):
    """A number that the weighted sum never passes: the shelves' number times the sum of the weights above 0."""
    if not stays_below(store, weights):
        raise NotBelow()
    return store.shelves * sum([weight for weight in weights if weight > 0])


def never_more(store, lot, other):
    """Whether the sum over the lot is never more than that over the other one, and some number."""
    check_store(store)
    check_lot(store.shelves, lot)
    check_lot(store.shelves, other)
    return stays_below(store, [int(shelf in lot) - int(shelf in other) for shelf in range(store.shelves)])


def _check_weighed(store, weights):
    check_store(store)
    check_weights(store.shelves, weights)


def _weight(weights, lot):
    return sum([weights[shelf] for shelf in lot])


def _heavy_lots(store, weights):
    _check_weighed(store, weights)
    return [lot for lot in flat_lots(store) if _weight(weights, lot) > 0]
