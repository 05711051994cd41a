"""Told deliveries in any order: whether a wished board can be the end, by a dealing of places or by a crowd."""

from twoabove.basics import is_count
from twoabove.boards import check_board
from twoabove.checks import check_counts, check_position, is_list, is_lot_of, is_nowhere_below, is_wished_of
from twoabove.errors import InvalidWished


def places(store, board, wished, position):
    """The sorted list of the places that a delivery of the kind can take."""
    check_board(store, board)
    if not is_nowhere_below(board, wished):
        raise InvalidWished(wished)
    check_position(store.deliveries(), position)
    return place_table(store, board, wished)[position]


def can_end(store, board, counts, wished):
    """Whether the wished board can be the end of just these deliveries."""
    return crowd(store, board, counts, wished) is None


def dealing(store, board, counts, wished):
    """For each delivery kind as many places that it can take as the counts tell, all unlike; None if there are none."""
    _check_told(store, board, counts, wished)
    dealt, crowded = deal(place_table(store, board, wished), counts)
    if crowded is not None:
        return None
    return [sorted([place for place, taker in dealt.items() if taker == position]) for position in range(len(counts))]


def is_dealing(store, board, counts, wished, value):
    """Whether any value is a dealing."""
    _check_told(store, board, counts, wished)
    if not is_list(value) or len(value) != len(counts):
        return False
    table = place_table(store, board, wished)
    for dealt, choice, count in zip(value, table, counts):
        if not is_list(dealt) or len(dealt) != count or not all([_is_place(choice, place) for place in dealt]):
            return False
    return len({place for dealt in value for place in dealt}) == sum(counts)


def crowd(store, board, counts, wished):
    """Positions of kinds of which more deliveries come than there are places for them; None if there are none."""
    _check_told(store, board, counts, wished)
    return deal(place_table(store, board, wished), counts)[1]


def is_crowd(store, board, counts, wished, value):
    """Whether any value is a crowd."""
    _check_told(store, board, counts, wished)
    if not is_lot_of(len(counts), value):
        return False
    table = place_table(store, board, wished)
    taken = len({place for position in value for place in table[position]})
    return sum([counts[position] for position in value]) > taken


def told_way(store, board, counts, wished):
    """A history of just these deliveries that leads to the wished board; None if there is none."""
    rows = dealing(store, board, counts, wished)
    if rows is None:
        return None
    # Level by level: of those that are not yet full one that holds least is always next.
    pieces = sorted([(level, shelf, position) for position, row in enumerate(rows) for shelf, level in row])
    return [("put", position, shelf) for _, shelf, position in pieces]


def place_table(store, board, wished):
    """For each delivery kind the sorted list of the places that it can take."""
    return [_places_of(board, wished, kind) for kind in store.deliveries()]


def deal(table, counts):
    """Places dealt to as many deliveries as can be, each with the position of its kind; and a crowd, or None.

    The table has, for each kind, the places that it can take.
    """
    dealt = {}
    crowded = None
    for position, count in enumerate(counts):
        for _ in range(count):
            looked = []
            if not _finds_place(table, dealt, position, looked) and crowded is None:
                # All places that these could take are dealt among them, and still one of them has none.
                crowded = sorted(looked)
    return dealt, crowded


def _check_told(store, board, counts, wished):
    check_board(store, board)
    check_counts(store.deliveries(), counts)
    if not is_wished_of(board, counts, wished):
        raise InvalidWished(wished)


def _places_of(board, wished, kind):
    least = min([wished[shelf] for shelf in kind])
    return [(shelf, level) for shelf in kind for level in range(board[shelf], wished[shelf]) if level <= least]


def _is_place(choice, value):
    # The numbers are asked for as COUNTS, too: True would be found where 1 is.
    if not isinstance(value, tuple) or len(value) != 2:
        return False
    return is_count(value[0]) and is_count(value[1]) and value in choice


def _finds_place(table, dealt, position, looked):
    # A free place for one more delivery of the kind, or one whose taker finds another one.
    looked.append(position)
    for place in table[position]:
        taker = dealt.get(place)
        if taker is None or (taker not in looked and _finds_place(table, dealt, taker, looked)):
            dealt[place] = position
            return True
    return False
