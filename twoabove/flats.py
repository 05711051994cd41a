"""Flat lots, closed families, and lots that part two stores."""

from twoabove.checks import is_lot_list
from twoabove.errors import InvalidLots
from twoabove.rows import all_steps, flat_row, step_lot
from twoabove.stores import check_store, check_stores

MOST_LOTS = 256


def flat_lots(store):
    """The sorted list of all flat lots: the least closed family."""
    return closure(store, [])


def is_flat(store, lot):
    """Whether the lot is flat."""
    return flat_row(store, lot) is not None


def closure(store, lots):
    """The sorted list of the lots of the least closed family that has these lots."""
    check_store(store)
    if not is_lot_list(store.shelves, lots) or len(lots) > MOST_LOTS:
        raise InvalidLots(lots)
    waiting = [[]] + [sorted(lot) for lot in lots]
    family = {}
    while waiting:
        lot = waiting.pop()
        if tuple(lot) not in family:
            family[tuple(lot)] = True
            waiting.extend(_next_lots(store, lot))
    return [list(lot) for lot in sorted(family)]


def is_closed(store, value):
    """Whether any value is a closed family of the store, in any sequence."""
    check_store(store)
    if not is_lot_list(store.shelves, value):
        return False
    family = {tuple(sorted(lot)): True for lot in value}
    if () not in family:
        return False
    return all([tuple(further) in family for lot in list(family) for further in _next_lots(store, lot)])


def flat_parting(store, other):
    """A lot that is flat in just one of both stores; None if there is none."""
    check_stores(store, other)
    lots = flat_lots(store)
    others = flat_lots(other)
    for lot in lots + others:
        if lot not in lots or lot not in others:
            return lot
    return None


def _next_lots(store, lot):
    return [step_lot(store, lot, step) for step in all_steps(store)]
