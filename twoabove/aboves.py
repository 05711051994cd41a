"""Whether a shelf ever stands two above another one, and which kinds are to blame."""

from twoabove.checks import check_pair
from twoabove.rows import is_row, row_lot
from twoabove.stores import check_store


def never_two_above(store, shelf, other):
    """Whether the shelf never stands two above the other one."""
    return blame(store, shelf, other) == ([], [])


def never_table(store):
    """Of each shelf and each other one whether it never stands two above that one; True of itself."""
    check_store(store)
    shelves = list(range(store.shelves))
    return [[shelf == other or never_two_above(store, shelf, other) for other in shelves] for shelf in shelves]


def above_row(store, shelf, other):
    """A row that ends with a lot with the shelf, without the other one; None if there is none."""
    deliveries, sales = blame(store, shelf, other)
    if deliveries:
        return [("lay", deliveries[0])]
    if sales:
        # Sale kinds are to blame only if some delivery kind names the shelf.
        laid = [position for position, kind in enumerate(store.deliveries()) if shelf in kind]
        return [("lay", laid[0]), ("off", sales[0])]
    return None


def is_above_row(store, shelf, other, value):
    """Whether any value is a row that ends with a lot with the shelf, without the other one."""
    check_two(store, shelf, other)
    if not is_row(store, value):
        return False
    lot = row_lot(store, value)
    return shelf in lot and other not in lot


def blame(store, shelf, other):
    """The positions of the delivery kinds, and of the sale kinds, that let the shelf stand two above the other one."""
    check_two(store, shelf, other)
    return blamed(store.deliveries(), store.sales(), shelf, other)


def blamed(deliveries, sales, shelf, other):
    """The positions of the kinds to blame, of any number of kinds."""
    if not any([shelf in kind for kind in deliveries]):
        return [], []
    return _with_and_without(deliveries, shelf, other), _with_and_without(sales, other, shelf)


def level_groups(store):
    """The sorted list of the level groups."""
    table = never_table(store)
    shelves = list(range(store.shelves))
    groups = [[other for other in shelves if table[shelf][other] and table[other][shelf]] for shelf in shelves]
    return [list(group) for group in sorted({tuple(group) for group in groups})]


def check_two(store, shelf, other):
    """The store is a Store, and both are shelves of it, unlike ones."""
    check_store(store)
    check_pair(store.shelves, shelf, other)


def _with_and_without(kinds, shelf, other):
    return [position for position, kind in enumerate(kinds) if shelf in kind and other not in kind]
