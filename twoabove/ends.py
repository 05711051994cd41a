"""The boards that may come of deliveries in a told sequence, and all ends of told deliveries in any order."""

from twoabove.boards import check_board
from twoabove.checks import check_counts, check_shelf, is_count_below, is_list
from twoabove.deeds import done, put_shelves
from twoabove.errors import InvalidPositions, TooMany
from twoabove.levels import MOST_BOARDS
from twoabove.lots import parts
from twoabove.tolds import deal, place_table, told_way

MOST_POSITIONS = 20
MOST_DELIVERIES = 12


def row_ends(store, board, positions):
    """The sorted list of the boards that may come of deliveries of these kinds in this sequence."""
    check_board(store, board)
    _check_positions(store, positions)
    ends = [list(board)]
    for position in positions:
        ends = _behind_all(store, ends, position)
        _check_boards(ends)
    return ends


def all_ends(store, board, counts):
    """The sorted list of all boards that can be the end."""
    check_board(store, board)
    check_counts(store.deliveries(), counts)
    if sum(counts) > MOST_DELIVERIES:
        raise TooMany("pieces", MOST_DELIVERIES)
    ends = []
    waiting = [(list(board), min(board))]
    while waiting:
        pieces, level = waiting.pop()
        if sum(pieces) == sum(board) + sum(counts):
            ends.append(pieces)
            _check_boards(ends)
        else:
            waiting.extend(_one_level_up(store, board, counts, pieces, level))
    return sorted(ends)


def span(store, board, counts, shelf):
    """The tuple of the least and the greatest number of the shelf among all ends."""
    check_board(store, board)
    check_counts(store.deliveries(), counts)
    check_shelf(store.shelves, shelf)
    held = [end[shelf] for end in all_ends(store, board, counts)]
    return min(held), max(held)


def is_one_end(store, board, counts):
    """Whether there is just one end."""
    return len(all_ends(store, board, counts)) == 1


def two_histories(store, board, counts):
    """A tuple of two histories of just these deliveries with unlike ends; None if there is one end."""
    ends = all_ends(store, board, counts)
    if len(ends) == 1:
        return None
    return told_way(store, board, counts, ends[0]), told_way(store, board, counts, ends[-1])


def _check_positions(store, value):
    many = len(store.deliveries())
    if not is_list(value) or len(value) > MOST_POSITIONS:
        raise InvalidPositions(value)
    if not all([is_count_below(position, many) for position in value]):
        raise InvalidPositions(value)


def _check_boards(found):
    if len(found) > MOST_BOARDS:
        raise TooMany("boards", MOST_BOARDS)


def _behind_all(store, ahead, position):
    found = {}
    for board in ahead:
        for shelf in put_shelves(store, board, position):
            found[tuple(done(store, board, ("put", position, shelf)))] = True
    return [list(board) for board in sorted(found)]


def _one_level_up(store, board, counts, pieces, level):
    # Each end is built in just one way: level by level, and so its places below this level are settled.
    left = sum(board) + sum(counts) - sum(pieces)
    free = [shelf for shelf, held in enumerate(pieces) if held == level]
    higher = [_raised(pieces, part) for part in parts(free) if len(part) <= left]
    return [(one, level + 1) for one in higher if _leads_on(store, board, counts, one, level)]


def _raised(pieces, lot):
    return [held + int(shelf in lot) for shelf, held in enumerate(pieces)]


def _leads_on(store, board, counts, pieces, level):
    """Whether some end has just these pieces up to the level.

    Kinds with a shelf that stays that low get nothing further, so all of their deliveries need places among these
    pieces, and each of the pieces needs a delivery. If each can be had alone, then both can be had at once, and what
    is left of the other kinds goes to higher levels, whatever comes.
    """
    table = place_table(store, board, pieces)
    if len(deal(table, counts)[0]) != sum(pieces) - sum(board):
        return False
    settled = [min([pieces[shelf] for shelf in kind]) <= level for kind in store.deliveries()]
    return deal(table, [count * int(low) for count, low in zip(counts, settled)])[1] is None
