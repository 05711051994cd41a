"""Deeds by the custom, and histories that are played."""

from twoabove.basics import is_count
from twoabove.boards import check_board, least_of, most_of
from twoabove.checks import MOST_PIECES, check_position, is_count_below, is_list
from twoabove.errors import BarredAt, InvalidDeed, InvalidHistory, NotCustom, TooMany

MOST_DEEDS = 200


def put_shelves(store, board, position):
    """The put lot of the delivery kind at the position: any of it may get the piece."""
    check_board(store, board)
    kinds = store.deliveries()
    check_position(kinds, position)
    return least_of(store, board, kinds[position])


def take_shelves(store, board, position):
    """The take lot of the sale kind at the position: any of it may lose the piece."""
    check_board(store, board)
    kinds = store.sales()
    check_position(kinds, position)
    return most_of(store, board, kinds[position])


def done(store, board, deed):
    """The board behind the deed."""
    check_board(store, board)
    if not _is_deed(store, deed):
        raise InvalidDeed(deed)
    if not _is_custom(store, board, deed):
        raise NotCustom()
    return _behind(board, deed)


def played(store, board, history):
    """The board behind the whole history."""
    return boards(store, board, history)[-1]


def boards(store, board, history):
    """The first board, and the one behind each deed of the history."""
    check_board(store, board)
    check_history(store, history)
    row = [list(board)]
    for position, deed in enumerate(history):
        if not _is_custom(store, row[-1], deed):
            raise BarredAt(position)
        row.append(_behind(row[-1], deed))
    return row


def first_barred(store, board, history):
    """The position of the first deed that is not by the custom; None if all are."""
    try:
        boards(store, board, history)
    except BarredAt as barred:
        return barred.position
    return None


def is_history(store, value):
    """Whether any value is a history of the store; whether this is a Store is asked ahead of it."""
    if not is_list(value) or len(value) > MOST_DEEDS:
        return False
    return all([_is_deed(store, deed) for deed in value])


def check_history(store, history):
    """The history is one of the store; whether it is a Store is asked ahead of it."""
    if not is_history(store, history):
        raise InvalidHistory(history)


def _is_deed(store, value):
    if not isinstance(value, tuple) or len(value) < 2:
        return False
    word = value[0]
    if word == "put":
        return _names_shelf(store.deliveries(), value)
    if word == "take":
        return _names_shelf(store.sales(), value)
    return word == "miss" and len(value) == 2 and is_count_below(value[1], len(store.sales()))


def _names_shelf(kinds, deed):
    # The shelf is asked for as a COUNT, too: True would be found in a kind that has 1.
    if len(deed) != 3 or not is_count_below(deed[1], len(kinds)):
        return False
    return is_count(deed[2]) and deed[2] in kinds[deed[1]]


def _is_custom(store, board, deed):
    if deed[0] == "put":
        return deed[2] in put_shelves(store, board, deed[1])
    if deed[0] == "take":
        return deed[2] in take_shelves(store, board, deed[1])
    return take_shelves(store, board, deed[1]) == []


def _behind(board, deed):
    pieces = list(board)
    if deed[0] == "put":
        if pieces[deed[2]] == MOST_PIECES:
            raise TooMany("pieces", MOST_PIECES)
        pieces[deed[2]] += 1
    if deed[0] == "take":
        pieces[deed[2]] -= 1
    return pieces
