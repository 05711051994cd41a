"""Lean stores, and whether a store lets all that another one lets by deliveries alone."""

from twoabove.checks import is_board_of
from twoabove.lots import is_within
from twoabove.looks import comes
from twoabove.stores import Store, check_store, check_stores


def lean(store):
    """The Store of the lean delivery kinds and all sale kinds."""
    left_out = needless(store)
    kinds = [kind for position, kind in enumerate(store.deliveries()) if position not in left_out]
    return Store(store.shelves, kinds, store.sales())


def needless(store):
    """The rising list of the positions of the needless delivery kinds."""
    check_store(store)
    kinds = store.deliveries()
    return [position for position in range(len(kinds)) if _is_needless(store, kinds, position)]


def lets_all(store, other):
    """Whether the store lets whatever the other one lets."""
    return _first_unlet(store, other) is None


def parting(store, other):
    """A tuple of two boards: the other store lets the second from the first, the store does not; None if none is."""
    unlet = _first_unlet(store, other)
    if unlet is None:
        return None
    kind, shelf = unlet
    # Whatever else gives the shelf its second piece names some shelf outside of the kind, and so one that holds 0.
    board = [int(one in kind) for one in range(store.shelves)]
    return board, [pieces + int(one == shelf) for one, pieces in enumerate(board)]


def is_parting(store, other, value):
    """Whether any value is a parting of both stores."""
    check_stores(store, other)
    if not isinstance(value, tuple) or len(value) != 2:
        return False
    board, wished = value
    if not is_board_of(store.shelves, board) or not is_board_of(store.shelves, wished):
        return False
    return comes(other, board, wished) and not comes(store, board, wished)


def _is_needless(store, kinds, position):
    others = kinds[:position] + kinds[position + 1:]
    return all([_lets(store, others, kinds[position], shelf) for shelf in kinds[position]])


def _lets(store, kinds, whole, shelf):
    # Whether one of the kinds names the shelf and lies within the whole kind.
    return any([shelf in kind and is_within(store.shelves, kind, whole) for kind in kinds])


def _first_unlet(store, other):
    # A delivery kind of the other store and a shelf of it that the store has no such kind for.
    check_stores(store, other)
    kinds = store.deliveries()
    for kind in other.deliveries():
        for shelf in kind:
            if not _lets(store, kinds, kind, shelf):
                return kind, shelf
    return None
