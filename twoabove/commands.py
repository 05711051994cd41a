"""The commands of a desk, by their words alone: whatever is kept, and whatever texts tell."""

from twoabove.errors import InvalidText
from twoabove.grammar import FIGURES, told_by

LETTERS = "abcdefghijklmnopqrstuvwxyz"
MOST_SIGNS = 8
MOST_TEXT = 80

# What stands behind each word: a NEW name or label, the name of what is kept of some sort ("any" of all, "alike" of
# the sort of the one ahead), a noted LABEL, a COUNT, or a text of some sort.
DEEDS = {
    "store": ("NEW", "TEXT store"),
    "board": ("NEW", "TEXT board"),
    "weights": ("NEW", "TEXT weights"),
    "counts": ("NEW", "TEXT counts"),
    "beside": ("NEW", "store", "store"),
    "lean": ("NEW", "store"),
    "lay": ("store", "TEXT kind"),
    "sell": ("store", "TEXT kind"),
    "unlay": ("store", "COUNT"),
    "unsell": ("store", "COUNT"),
    "turn": ("store", "TEXT order"),
    "put": ("board", "store", "COUNT", "COUNT"),
    "take": ("board", "store", "COUNT", "COUNT"),
    "miss": ("board", "store", "COUNT"),
    "play": ("board", "store", "TEXT history"),
    "drop": ("any",),
    "forget": ("LABEL",),
}
CLAIMS = {
    "never": ("store", "COUNT", "COUNT"),
    "above": ("store", "COUNT", "COUNT"),
    "below": ("store", "weights"),
    "without": ("store", "weights"),
    "comes": ("store", "board", "board"),
    "barred": ("store", "board", "board"),
    "ends": ("store", "board", "counts", "board"),
    "crowded": ("store", "board", "counts", "board"),
    "lets": ("store", "store"),
    "parts": ("store", "store"),
    "fullest": ("store", "board"),
    "stuck": ("store", "board"),
}
QUESTIONS = {
    "undo": (),
    "redo": (),
    "state": ("LABEL",),
    "states": (),
    "claimed": ("LABEL",),
    "names": (),
    "show": ("any",),
    "total": ("store", "board"),
    "height": ("store", "board"),
    "level": ("store", "board", "COUNT"),
    "flat": ("store", "TEXT lot"),
    "never": ("store", "COUNT", "COUNT"),
    "below": ("store", "weights"),
    "comes": ("store", "board", "board"),
    "ends": ("store", "board", "counts", "board"),
    "fullest": ("store", "board"),
    "lets": ("store", "store"),
    "bound": ("store", "weights"),
    "greatest": ("store", "weights"),
    "fewest": ("store", "COUNT", "COUNT"),
    "same": ("any", "alike"),
}


def is_name(value):
    """Whether any value is a name; a label is like one."""
    if not isinstance(value, str) or not 1 <= len(value) <= MOST_SIGNS:
        return False
    return value[0] in LETTERS and all([sign in LETTERS + FIGURES for sign in value])


def is_command(value):
    """Whether any value is a command."""
    return told_command(value) is not None


def is_desk_deed(value):
    """Whether any value is a deed of the desk."""
    told = told_command(value)
    return told is not None and is_deed_word(told[0])


def is_deed_word(word):
    """Whether the word of a command makes it a deed of the desk."""
    return word == "claim" or word in DEEDS


def told_command(value):
    """A command's word, the sorts of the parts behind it, and what these tell; None if the value is no command.

    Names and labels tell themselves, a COUNT its number, a text what it tells.
    """
    if not isinstance(value, str):
        return None
    word, *parts = value.split(" ")
    sorts = _sorts(word, parts)
    if sorts is None or len(sorts) != len(parts):
        return None
    told = [_told(sort, part) for sort, part in zip(sorts, parts)]
    if None in told:
        return None
    return word, sorts, told


def _sorts(word, parts):
    if word == "claim":
        return _claim_sorts(parts)
    if word in DEEDS:
        return DEEDS[word]
    return QUESTIONS.get(word)


def _claim_sorts(parts):
    if len(parts) < 2 or parts[1] not in CLAIMS:
        return None
    return ("NEW LABEL", "WORD") + CLAIMS[parts[1]]


def _told(sort, part):
    if sort == "COUNT":
        return _count(part)
    if sort.startswith("TEXT "):
        return _text(sort[5:], part)
    # The word of a claim has the signs of a name, too.
    if is_name(part):
        return part
    return None


def _count(part):
    if part == "0" or (1 <= len(part) <= 2 and part[0] != "0" and all([sign in FIGURES for sign in part])):
        return int(part)
    return None


def _text(sort, part):
    if len(part) > MOST_TEXT:
        return None
    try:
        return told_by(sort, part)
    except InvalidText:
        return None
