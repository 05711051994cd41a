"""What the deeds of a desk make of what it keeps."""

from twoabove.checks import MOST_KINDS, is_board_of, is_counts_of, is_shelf_number
from twoabove.claims import is_claim
from twoabove.deeds import done, played
from twoabove.errors import InvalidBoard, InvalidClaim, InvalidCounts, InvalidWeights, TooMany
from twoabove.leans import lean
from twoabove.scenes import scene_behind
from twoabove.stores import Store, beside, renamed, with_delivery, with_sale, without_delivery, without_sale

MOST_NAMES = 12
MOST_LABELS = 12


def behind_deed(scene, word, parts, found):
    """The scene behind a deed with these parts, which stand for what was found."""
    things = dict(scene.things)
    claims = dict(scene.claims)
    if word == "claim":
        claims[parts[0]] = _noted(parts, found)
    elif word == "forget":
        del claims[parts[0]]
    elif word == "drop":
        del things[parts[0]]
    else:
        things[parts[0]] = _made(word, found)
    if len(things) > MOST_NAMES:
        raise TooMany("names", MOST_NAMES)
    if len(claims) > MOST_LABELS:
        raise TooMany("labels", MOST_LABELS)
    return scene_behind(scene, things, claims)


def _noted(parts, found):
    claim = tuple(found[1:])
    if not is_claim(claim):
        raise InvalidClaim(claim)
    return tuple([str(part) for part in parts[1:]])


def _made(word, found):
    # The sort and the Store or list that is kept under the first name.
    if word in ("board", "put", "take", "miss", "play"):
        return "board", _made_board(word, found)
    if word == "weights":
        return "weights", _told_weights(found[1])
    if word == "counts":
        return "counts", _told_counts(found[1])
    return "store", _made_store(word, found)


def _made_store(word, found):
    match word:
        case "store":
            shelves, deliveries, sales = found[1]
            return Store(shelves, deliveries, sales)
        case "beside":
            return beside(found[1], found[2])
        case "lean":
            return lean(found[1])
        case "lay":
            return with_delivery(*found)
        case "sell":
            return with_sale(*found)
        case "unlay":
            return without_delivery(*found)
        case "unsell":
            return without_sale(*found)
        case _:
            return renamed(*found)


def _made_board(word, found):
    if word == "board":
        return _told_board(found[1])
    board, store, *told = found
    if word == "play":
        return played(store, board, told[0])
    return done(store, board, (word,) + tuple(told))


def _told_board(board):
    if not is_shelf_number(len(board)) or not is_board_of(len(board), board):
        raise InvalidBoard(board)
    return board


def _told_weights(weights):
    if not is_shelf_number(len(weights)):
        raise InvalidWeights(weights)
    return weights


def _told_counts(counts):
    if len(counts) > MOST_KINDS or not is_counts_of(len(counts), counts):
        raise InvalidCounts(counts)
    return counts
