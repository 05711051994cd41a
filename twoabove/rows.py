"""Steps and rows: flat lots made from nothing by laying kinds on and taking kinds off."""

from twoabove.checks import check_lot, is_count_below, is_list
from twoabove.errors import InvalidRow
from twoabove.lots import common, is_within, joined, without
from twoabove.stores import check_store

MOST_STEPS = 60


def row_lot(store, row):
    """The lot that the row ends with."""
    check_row(store, row)
    lot = []
    for step in row:
        lot = step_lot(store, lot, step)
    return lot


def is_flat_row(store, lot, value):
    """Whether any value is a row of the store that ends with the lot."""
    check_store(store)
    check_lot(store.shelves, lot)
    return is_row(store, value) and row_lot(store, value) == sorted(lot)


def flat_row(store, lot):
    """A row that ends with the lot, found from its end; None if the lot is not flat."""
    check_store(store)
    check_lot(store.shelves, lot)
    taken = []
    unsettled = list(range(store.shelves))
    step = _last_step(store, lot, unsettled)
    while step is not None:
        taken.append(step)
        unsettled = without(store.shelves, unsettled, step_kind(store, step))
        step = _last_step(store, lot, unsettled)
    if common(store.shelves, unsettled, lot):
        return None
    return taken[::-1]


def is_row(store, value):
    """Whether any value is a row of the store; whether this is a Store is asked ahead of it."""
    if not is_list(value) or len(value) > MOST_STEPS:
        return False
    return all([_is_step(store, step) for step in value])


def check_row(store, row):
    """The store is a Store, and the row one of it."""
    check_store(store)
    if not is_row(store, row):
        raise InvalidRow(row)


def all_steps(store):
    """All steps of the store."""
    lays = [("lay", position) for position in range(len(store.deliveries()))]
    return lays + [("off", position) for position in range(len(store.sales()))]


def step_kind(store, step):
    """The kind that the step lays on or takes off."""
    word, position = step
    if word == "lay":
        return store.deliveries()[position]
    return store.sales()[position]


def step_lot(store, lot, step):
    """The lot behind the step."""
    if step[0] == "lay":
        return joined(store.shelves, lot, step_kind(store, step))
    return without(store.shelves, lot, step_kind(store, step))


def _is_step(store, value):
    if not isinstance(value, tuple) or len(value) != 2:
        return False
    word, position = value
    if word == "lay":
        return is_count_below(position, len(store.deliveries()))
    return word == "off" and is_count_below(position, len(store.sales()))


def _last_step(store, lot, unsettled):
    # A step that settles some shelf as the lot has it, and none of the unsettled ones otherwise.
    outside = without(store.shelves, unsettled, lot)
    inside = common(store.shelves, unsettled, lot)
    for step in all_steps(store):
        settled = common(store.shelves, step_kind(store, step), unsettled)
        wanted = inside if step[0] == "lay" else outside
        if settled and is_within(store.shelves, settled, wanted):
            return step
    return None
