"""Stores: shelves with delivery kinds and sale kinds, and stores made of stores."""

from twoabove.checks import MOST_KINDS, MOST_SHELVES
from twoabove.checks import check_kind, check_order, check_position, check_shelf_number, is_kind_list
from twoabove.errors import InvalidDeliveries, InvalidSales, InvalidStore, TooMany, UnlikeShelves


class Store:
    """Shelves, told by their number, with delivery kinds and sale kinds."""

    def __init__(self, shelves, deliveries, sales):
        check_shelf_number(shelves)
        if not is_kind_list(shelves, deliveries):
            raise InvalidDeliveries(deliveries)
        if not is_kind_list(shelves, sales):
            raise InvalidSales(sales)
        self._shelves = shelves
        self._deliveries = _told(deliveries)
        self._sales = _told(sales)

    @property
    def shelves(self):
        """How many shelves there are."""
        return self._shelves

    def deliveries(self):
        """The delivery kinds, by their positions."""
        return [list(kind) for kind in self._deliveries]

    def sales(self):
        """The sale kinds, by their positions."""
        return [list(kind) for kind in self._sales]

    def __eq__(self, other):
        return (
            isinstance(other, Store)
            and self._shelves == other._shelves
            and self._deliveries == other._deliveries
            and self._sales == other._sales
        )


def check_store(value):
    if not isinstance(value, Store):
        raise InvalidStore(value)


def check_stores(store, other):
    """Both are stores, and have as many shelves."""
    check_store(store)
    check_store(other)
    if store.shelves != other.shelves:
        raise UnlikeShelves()


def with_delivery(store, kind):
    """The Store that has the delivery kind beside its others."""
    check_store(store)
    check_kind(store.shelves, kind)
    return Store(store.shelves, _with_kind(store.deliveries(), kind), store.sales())


def with_sale(store, kind):
    """The Store that has the sale kind beside its others."""
    check_store(store)
    check_kind(store.shelves, kind)
    return Store(store.shelves, store.deliveries(), _with_kind(store.sales(), kind))


def without_delivery(store, position):
    """The Store without the delivery kind at the position."""
    check_store(store)
    check_position(store.deliveries(), position)
    return Store(store.shelves, _without_kind(store.deliveries(), position), store.sales())


def without_sale(store, position):
    """The Store without the sale kind at the position."""
    check_store(store)
    check_position(store.sales(), position)
    return Store(store.shelves, store.deliveries(), _without_kind(store.sales(), position))


def renamed(store, order):
    """The Store in which the shelf i is the one that stands at i in the order."""
    check_store(store)
    check_order(store.shelves, order)
    return Store(store.shelves, _renamed_kinds(store.deliveries(), order), _renamed_kinds(store.sales(), order))


def beside(store, other):
    """The Store that has the shelves of the other one behind its own, and the kinds of both."""
    check_store(store)
    check_store(other)
    shelves = store.shelves + other.shelves
    if shelves > MOST_SHELVES:
        raise TooMany("shelves", MOST_SHELVES)
    deliveries = _beside_kinds(store.deliveries(), other.deliveries(), store.shelves)
    sales = _beside_kinds(store.sales(), other.sales(), store.shelves)
    return Store(shelves, deliveries, sales)


def named(store):
    """The lot of the shelves that some delivery kind holds."""
    check_store(store)
    return sorted({shelf for kind in store.deliveries() for shelf in kind})


def _told(kinds):
    # Tuples throughout: what is kept can then neither be changed from outside nor by accident.
    return tuple(sorted({tuple(sorted(kind)) for kind in kinds}))


def _with_kind(kinds, kind):
    told = sorted(kind)
    if told in kinds:
        return kinds
    _check_kind_number(len(kinds) + 1)
    return kinds + [told]


def _without_kind(kinds, position):
    return kinds[:position] + kinds[position + 1:]


def _renamed_kinds(kinds, order):
    return [[order[shelf] for shelf in kind] for kind in kinds]


def _beside_kinds(kinds, others, raised):
    _check_kind_number(len(kinds) + len(others))
    return kinds + [[shelf + raised for shelf in kind] for kind in others]


def _check_kind_number(many):
    if many > MOST_KINDS:
        raise TooMany("kinds", MOST_KINDS)
