"""Deliveries alone by a written order, which tells where the piece goes if several shelves hold least."""

from twoabove.checks import check_order, check_pair, is_lot_of
from twoabove.deeds import done, put_shelves
from twoabove.looks import are_pairs, check_two_boards, first_pairs, giver_table, piece_by_piece
from twoabove.stores import check_store


def put_by(store, order, board, position):
    """The board behind a delivery of the kind by the order."""
    _check_ordered(store, order)
    lot = put_shelves(store, board, position)
    earliest = [shelf for shelf in order if shelf in lot][0]
    return done(store, board, ("put", position, earliest))


def comes_by(store, order, board, wished):
    """Whether deliveries alone, by the order, lead from the board to the wished one."""
    return givers_by(store, order, board, wished) is not None


def givers_by(store, order, board, wished):
    """For each gainer a tuple of it and the position of a giver of it by the order; None if it does not come."""
    table = _givers_by_table(store, order, board, wished)
    return first_pairs(board, wished, table)


def are_givers_by(store, order, board, wished, value):
    """Whether any value is givers by the order."""
    table = _givers_by_table(store, order, board, wished)
    return are_pairs(board, wished, table, value)


def way_by(store, order, board, wished):
    """Positions of delivery kinds that lead to the wished board by the order; None if there are none."""
    pairs = givers_by(store, order, board, wished)
    if pairs is None:
        return None
    # Of those who hold least the earliest in the order is next: the custom by the order would take it, too.
    ordered = [pair for shelf in order for pair in pairs if pair[0] == shelf]
    return [position for _, position in piece_by_piece(board, wished, ordered)]


def never_above(store, order, shelf, other):
    """Whether the shelf never holds more than the other one, from the empty board, by the order, without sales."""
    return above_lot(store, order, shelf, other) is None


def above_lot(store, order, shelf, other):
    """The greatest self-given lot without the other shelf; None if it does not hold the shelf."""
    _check_ordered(store, order)
    check_pair(store.shelves, shelf, other)
    lot = [one for one in range(store.shelves) if one != other]
    given = _given(store, order, lot)
    while given != lot:
        lot = given
        given = _given(store, order, lot)
    if shelf in lot:
        return lot
    return None


def is_above_lot(store, order, shelf, other, value):
    """Whether any value is a self-given lot that holds the shelf and not the other one."""
    _check_ordered(store, order)
    check_pair(store.shelves, shelf, other)
    if not is_lot_of(store.shelves, value) or shelf not in value or other in value:
        return False
    return _given(store, order, value) == sorted(value)


def _check_ordered(store, order):
    check_store(store)
    check_order(store.shelves, order)


def _ahead(order, kind, shelf):
    # The kind's shelves that stand ahead of the shelf in the order.
    return [one for one in list(order)[:order.index(shelf)] if one in kind]


def _givers_by_table(store, order, board, wished):
    _check_ordered(store, order)
    check_two_boards(store, board, wished)
    kinds = store.deliveries()
    return [
        [position for position in positions if _is_by(order, wished, kinds[position], shelf)]
        for shelf, positions in enumerate(giver_table(store, wished))
    ]


def _is_by(order, wished, kind, shelf):
    return all([wished[one] >= wished[shelf] for one in _ahead(order, kind, shelf)])


def _given(store, order, lot):
    # The shelves of the lot with a delivery kind all of whose shelves ahead of them lie in the lot.
    return sorted([shelf for shelf in lot if _is_given(store, order, lot, shelf)])


def _is_given(store, order, lot, shelf):
    kinds = [kind for kind in store.deliveries() if shelf in kind]
    return any([all([one in lot for one in _ahead(order, kind, shelf)]) for kind in kinds])
