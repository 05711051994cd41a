"""The boards that can come from the empty one by deliveries alone, level by level, and their numbers."""

from twoabove.boards import board_of, check_board
from twoabove.checks import check_lot, is_board_of, is_count_below, is_count_to
from twoabove.errors import InvalidBoard, InvalidNumber, InvalidTotal, NotCome, TooMany
from twoabove.looks import comes
from twoabove.lots import is_within, parts
from twoabove.stores import check_store

MOST_TOTAL = 20
MOST_BOARDS = 200


def supported(store, lot):
    """The lot that is joined of all delivery kinds within the lot."""
    check_store(store)
    check_lot(store.shelves, lot)
    kinds = [kind for kind in store.deliveries() if is_within(store.shelves, kind, lot)]
    return sorted({shelf for kind in kinds for shelf in kind})


def can_come(store, board):
    """Whether the board can come from the empty one."""
    check_board(store, board)
    return comes(store, [0] * store.shelves, board)


def how_many(store, total):
    """How many boards of the total can come."""
    _check_total(store, total)
    return _many_between(store, total, [0] * store.shelves, [total] * store.shelves)


def boards_with(store, total):
    """The sorted list of the boards of the total that can come."""
    if how_many(store, total) > MOST_BOARDS:
        raise TooMany("boards", MOST_BOARDS)
    return sorted([board_of(store, lots) for lots in _falling_rows(store, list(range(store.shelves)), total)])


def numbered(store, total, number):
    """The board with the number among those of the total that can come."""
    if not is_count_below(number, how_many(store, total)):
        raise InvalidNumber(number)
    board = []
    rest = number
    while len(board) < store.shelves:
        pieces = 0
        many = _many_led_on(store, total, board + [pieces])
        while rest >= many:
            rest -= many
            pieces += 1
            many = _many_led_on(store, total, board + [pieces])
        board.append(pieces)
    return board


def number_of(store, board):
    """The number of the board among those of its total that can come."""
    check_store(store)
    if not is_board_of(store.shelves, board) or sum(board) > MOST_TOTAL:
        raise InvalidBoard(board)
    if not can_come(store, board):
        raise NotCome()
    # Those ahead of it first differ from it on some shelf, where they hold less.
    starts = [list(board[:shelf]) + [less] for shelf, pieces in enumerate(board) for less in range(pieces)]
    return sum([_many_led_on(store, sum(board), start) for start in starts])


def _check_total(store, total):
    check_store(store)
    if not is_count_to(total, MOST_TOTAL):
        raise InvalidTotal(total)


def _many_led_on(store, total, start):
    # How many boards that can come begin with the numbers of the start.
    free = store.shelves - len(start)
    return _many_between(store, total, start + [0] * free, start + [total] * free)


def _many_between(store, total, least, most):
    """How many boards of the total that can come hold on no shelf less than the least, or more than the most."""
    ways = {(tuple(range(store.shelves)), total): 1}
    for level in range(1, total + 1):
        musts = [shelf for shelf, pieces in enumerate(least) if pieces >= level]
        mays = [shelf for shelf, pieces in enumerate(most) if pieces >= level > least[shelf]]
        ways = _ways_up(store, ways, musts, mays)
    return sum([many for (_, left), many in ways.items() if left == 0])


def _ways_up(store, ways, musts, mays):
    # In how many ways a lot stands at the next level, and so many pieces are left for those above.
    lots = {}
    further = {}
    for (lot, left), many in ways.items():
        if lot not in lots:
            lots[lot] = _next_lots(store, lot, musts, mays)
        for higher in lots[lot]:
            if len(higher) <= left:
                key = (higher, left - len(higher))
                further[key] = further.get(key, 0) + many
    return further


def _next_lots(store, lot, musts, mays):
    carried = supported(store, list(lot))
    if not is_within(store.shelves, musts, carried):
        return []
    return [tuple(sorted(musts + part)) for part in parts([shelf for shelf in carried if shelf in mays])]


def _falling_rows(store, lot, left):
    # All rows of lots for the levels above the one at which the lot stands, with so many pieces together.
    if left == 0:
        return [[]]
    rows = []
    for higher in parts(supported(store, lot)):
        if 0 < len(higher) <= left:
            rows.extend([[higher] + above for above in _falling_rows(store, higher, left - len(higher))])
    return rows
