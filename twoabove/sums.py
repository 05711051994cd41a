"""The greatest weighted sum of the boards that can come by deliveries alone."""

from twoabove.stores import Store, check_store, named
from twoabove.weights import stays_below


def greatest(store, weights):
    """The greatest weighted sum of the boards that can come; None if there is none."""
    board = greatest_board(store, weights)
    if board is None:
        return None
    return sum([weight * pieces for weight, pieces in zip(weights, board)])


def greatest_board(store, weights):
    """A board that can come with the greatest weighted sum; None if there is none."""
    check_store(store)
    # Without sales the flat lots are the joins of delivery kinds.
    if not stays_below(Store(store.shelves, store.deliveries(), []), weights):
        return None
    lot = named(store)
    return [int(shelf in lot and weight > 0) for shelf, weight in enumerate(weights)]
