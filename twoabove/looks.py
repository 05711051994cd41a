"""Deliveries alone: one look at the wished board tells whether it comes, by givers or by a bar."""

from twoabove.basics import is_count
from twoabove.boards import check_board
from twoabove.checks import check_wished, is_count_below, is_list
from twoabove.deeds import MOST_DEEDS
from twoabove.errors import TooMany


def comes(store, board, wished):
    """Whether deliveries alone lead from the board to the wished one."""
    return givers(store, board, wished) is not None


def givers(store, board, wished):
    """For each gainer a tuple of it and the position of a giver of it; None if it does not come."""
    check_two_boards(store, board, wished)
    return first_pairs(board, wished, giver_table(store, wished))


def are_givers(store, board, wished, value):
    """Whether any value is givers."""
    check_two_boards(store, board, wished)
    return are_pairs(board, wished, giver_table(store, wished), value)


def bar(store, board, wished):
    """A loser and None, or a gainer and for each of its kinds a shelf too low for it; None if it comes."""
    check_two_boards(store, board, wished)
    losers = [shelf for shelf, pieces in enumerate(wished) if pieces < board[shelf]]
    if losers:
        return losers[0], None
    table = giver_table(store, wished)
    stuck = [shelf for shelf in gainers(board, wished) if not table[shelf]]
    if stuck:
        return stuck[0], [lows[0] for lows in _low_shelves(store, wished, stuck[0])]
    return None


def is_bar(store, board, wished, value):
    """Whether any value is a bar."""
    check_two_boards(store, board, wished)
    if not isinstance(value, tuple) or len(value) != 2:
        return False
    shelf, lows = value
    if not is_count_below(shelf, store.shelves):
        return False
    if lows is None:
        return wished[shelf] < board[shelf]
    if not is_list(lows) or not all([is_count_below(low, store.shelves) for low in lows]):
        return False
    choices = _low_shelves(store, wished, shelf)
    if wished[shelf] <= board[shelf] or len(lows) != len(choices):
        return False
    return all([low in choice for low, choice in zip(lows, choices)])


def way(store, board, wished):
    """A history of deliveries alone that leads to the wished board; None if there is none."""
    pairs = givers(store, board, wished)
    if pairs is None:
        return None
    return [("put", position, shelf) for shelf, position in piece_by_piece(board, wished, pairs)]


def check_two_boards(store, board, wished):
    """The store is a Store, and both are boards of it."""
    check_board(store, board)
    check_wished(store.shelves, wished)


def gainers(board, wished):
    """The shelves that hold more in the wished board."""
    return [shelf for shelf, pieces in enumerate(wished) if pieces > board[shelf]]


def giver_table(store, wished):
    """For each shelf the positions of its givers, if it gains."""
    return [_giver_positions(store, wished, shelf) for shelf in range(store.shelves)]


def first_pairs(board, wished, table):
    """For each gainer a tuple of it and the first position that the table has for it.

    None if some gainer has none, or some shelf holds less in the wished board.
    """
    if any([pieces < board[shelf] for shelf, pieces in enumerate(wished)]):
        return None
    gaining = gainers(board, wished)
    if not all([table[shelf] for shelf in gaining]):
        return None
    return [(shelf, table[shelf][0]) for shelf in gaining]


def are_pairs(board, wished, table, value):
    """Whether any value has for each gainer, rising, a tuple of it and a position that the table has for it."""
    if first_pairs(board, wished, table) is None or not is_list(value):
        return False
    if not all([_is_pair(table, pair) for pair in value]):
        return False
    return [pair[0] for pair in value] == gainers(board, wished)


def piece_by_piece(board, wished, pairs):
    """The pairs, each as often as its shelf gains a piece, such that one of those who hold least is always next."""
    if sum(wished) - sum(board) > MOST_DEEDS:
        raise TooMany("deeds", MOST_DEEDS)
    levels = list(range(max(wished)))
    return [pair for level in levels for pair in pairs if board[pair[0]] <= level < wished[pair[0]]]


def _kinds_of(store, shelf):
    return [(position, kind) for position, kind in enumerate(store.deliveries()) if shelf in kind]


def _giver_positions(store, wished, shelf):
    least = wished[shelf] - 1
    return [position for position, kind in _kinds_of(store, shelf) if all([wished[one] >= least for one in kind])]


def _low_shelves(store, wished, shelf):
    # For each kind that names the shelf those of the kind that hold two or more less, in the wished board.
    most = wished[shelf] - 2
    return [[low for low in kind if wished[low] <= most] for _, kind in _kinds_of(store, shelf)]


def _is_pair(table, value):
    if not isinstance(value, tuple) or len(value) != 2:
        return False
    shelf, position = value
    return is_count_below(shelf, len(table)) and is_count(position) and position in table[shelf]
