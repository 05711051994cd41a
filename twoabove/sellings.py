"""Sales alone: whether a board goes to a wished one, by takers or by a stop.

What a shelf holds is what a mirrored shelf lacks: a sale from where most is held is a delivery to where least is, so
that all is told by deliveries alone in the mirror.
"""

from twoabove.checks import MOST_PIECES
from twoabove.looks import are_givers, bar, check_two_boards, comes, givers, is_bar, way
from twoabove.stores import Store


def goes(store, board, wished):
    """Whether sales alone lead from the board to the wished one."""
    check_two_boards(store, board, wished)
    return comes(_mirrored(store), _lacks(board), _lacks(wished))


def takers(store, board, wished):
    """For each loser a tuple of it and the position of a taker of it; None if it does not go."""
    check_two_boards(store, board, wished)
    return givers(_mirrored(store), _lacks(board), _lacks(wished))


def are_takers(store, board, wished, value):
    """Whether any value is takers."""
    check_two_boards(store, board, wished)
    return are_givers(_mirrored(store), _lacks(board), _lacks(wished), value)


def stop(store, board, wished):
    """A gainer and None, or a loser and for each of its kinds a shelf too high for it; None if it goes."""
    check_two_boards(store, board, wished)
    return bar(_mirrored(store), _lacks(board), _lacks(wished))


def is_stop(store, board, wished, value):
    """Whether any value is a stop."""
    check_two_boards(store, board, wished)
    return is_bar(_mirrored(store), _lacks(board), _lacks(wished), value)


def way_down(store, board, wished):
    """A history of sales alone that leads to the wished board; None if there is none."""
    check_two_boards(store, board, wished)
    history = way(_mirrored(store), _lacks(board), _lacks(wished))
    if history is None:
        return None
    return [("take", position, shelf) for _, position, shelf in history]


def _mirrored(store):
    return Store(store.shelves, store.sales(), store.deliveries())


def _lacks(board):
    return [MOST_PIECES - pieces for pieces in board]
