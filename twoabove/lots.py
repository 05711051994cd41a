"""Lots: lists of unlike shelves; told, they are rising."""

from twoabove.checks import check_lot, check_shelf_number, is_lot_of


def is_lot(shelves, value):
    """Whether any value is a lot of so many shelves."""
    check_shelf_number(shelves)
    return is_lot_of(shelves, value)


def joined(shelves, lot, other):
    """The lot of the shelves that stand in at least one of both lots."""
    _check_lots(shelves, lot, other)
    return sorted(set(lot) | set(other))


def without(shelves, lot, other):
    """The lot of the shelves that stand in the lot, not in the other one."""
    _check_lots(shelves, lot, other)
    return sorted(set(lot) - set(other))


def common(shelves, lot, other):
    """The lot of the shelves that stand in both lots."""
    _check_lots(shelves, lot, other)
    return sorted(set(lot) & set(other))


def is_within(shelves, lot, other):
    """Whether each shelf of the lot stands in the other one."""
    _check_lots(shelves, lot, other)
    return all([shelf in other for shelf in lot])


def parts(lot):
    """All lots within the lot; where the lot is rising, they are, too."""
    found = [[]]
    for shelf in lot:
        found = found + [part + [shelf] for part in found]
    return found


def _check_lots(shelves, lot, other):
    check_shelf_number(shelves)
    check_lot(shelves, lot)
    check_lot(shelves, other)
