"""Claims, their contraries, and the papers that show that they are true."""

from twoabove.aboves import above_row, is_above_row, never_two_above
from twoabove.checks import is_board_of, is_counts_of, is_pair_of, is_weights_of, is_wished_of
from twoabove.errors import InvalidClaim
from twoabove.fullest import comes_fullest, is_peeling, is_stuck, peeling, stuck
from twoabove.leans import is_parting, lets_all, parting
from twoabove.looks import are_givers, bar, comes, givers, is_bar
from twoabove.stores import Store
from twoabove.tolds import can_end, crowd, dealing, is_crowd, is_dealing
from twoabove.weights import closed_paper, is_closed_paper, is_rising_row, rising_row, stays_below

ROWS = (
    ("never", "above"), ("below", "without"), ("comes", "barred"), ("ends", "crowded"), ("lets", "parts"),
    ("fullest", "stuck"),
)
PART_NUMBERS = {"never": 2, "below": 1, "comes": 2, "ends": 3, "lets": 1, "fullest": 1}


def words():
    """The two words of each row: of a claim and of its contrary."""
    return list(ROWS)


def is_claim(value):
    """Whether any value is a claim."""
    if not isinstance(value, tuple) or len(value) < 2:
        return False
    row = _row_of(value[0])
    if row is None or not isinstance(value[1], Store):
        return False
    first, parts = row[0], value[2:]
    return len(parts) == PART_NUMBERS[first] and _are_parts(first, value[1], parts)


def is_true(claim):
    """Whether the claim is true."""
    _check_claim(claim)
    word, *parts = claim
    first = _row_of(word)[0]
    return holds(first, parts) == (word == first)


def contrary(claim):
    """The claim with the other word of its row, and the same parts."""
    _check_claim(claim)
    others = [word for word in _row_of(claim[0]) if word != claim[0]]
    return (others[0],) + copied(claim[1:])


def paper_of(claim):
    """A paper of the claim; None if it is not true, or has none."""
    _check_claim(claim)
    word, *parts = claim
    return _paper(word, parts)


def is_paper_of(claim, value):
    """Whether any value is a paper of the claim."""
    _check_claim(claim)
    word, *parts = claim
    return _is_paper(word, parts, value)


def holds(first, parts):
    """Whether what the first word of a row tells of these parts is so; each wrong part raises its own error."""
    match first:
        case "never":
            return never_two_above(*parts)
        case "below":
            return stays_below(*parts)
        case "comes":
            return comes(*parts)
        case "ends":
            return can_end(*parts)
        case "lets":
            return lets_all(*parts)
        case _:
            return comes_fullest(*parts)


def copied(value):
    """The value with new lists and tuples, also those inside."""
    if isinstance(value, list):
        return [copied(part) for part in value]
    if isinstance(value, tuple):
        return tuple([copied(part) for part in value])
    return value


def _check_claim(value):
    if not is_claim(value):
        raise InvalidClaim(value)


def _row_of(word):
    for row in ROWS:
        if word in row:
            return row
    return None


def _are_parts(first, store, parts):
    # Whether these are, behind the store, what the row with this first word wants; there are as many as it wants.
    match first:
        case "never":
            return is_pair_of(store.shelves, parts)
        case "below":
            return is_weights_of(store.shelves, parts[0])
        case "comes":
            return is_board_of(store.shelves, parts[0]) and is_board_of(store.shelves, parts[1])
        case "ends":
            board, counts, wished = parts
            if not is_board_of(store.shelves, board) or not is_counts_of(len(store.deliveries()), counts):
                return False
            return is_wished_of(board, counts, wished)
        case "lets":
            return isinstance(parts[0], Store) and parts[0].shelves == store.shelves
        case _:
            return is_board_of(store.shelves, parts[0])


def _paper(word, parts):
    # Each of these tells None where there is no paper.
    match word:
        case "above":
            return above_row(*parts)
        case "below":
            return closed_paper(*parts)
        case "without":
            return rising_row(*parts)
        case "comes":
            return givers(*parts)
        case "barred":
            return bar(*parts)
        case "ends":
            return dealing(*parts)
        case "crowded":
            return crowd(*parts)
        case "parts":
            return parting(*parts)
        case "fullest":
            return peeling(*parts)
        case "stuck":
            return stuck(*parts)
        case _:
            return None


def _is_paper(word, parts, value):
    match word:
        case "above":
            return is_above_row(*parts, value)
        case "below":
            return is_closed_paper(*parts, value)
        case "without":
            return is_rising_row(*parts, value)
        case "comes":
            return are_givers(*parts, value)
        case "barred":
            return is_bar(*parts, value)
        case "ends":
            return is_dealing(*parts, value)
        case "crowded":
            return is_crowd(*parts, value)
        case "parts":
            return is_parting(*parts, value)
        case "fullest":
            return is_peeling(*parts, value)
        case "stuck":
            return is_stuck(*parts, value)
        case _:
            return False
