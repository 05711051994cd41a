"""What a desk answers to the commands that change nothing."""

from twoabove.boards import height, level_lot, total
from twoabove.changes import fewest_changes
from twoabove.claims import holds
from twoabove.flats import is_flat
from twoabove.scenes import told_states
from twoabove.stores import Store
from twoabove.sums import greatest
from twoabove.texts import numbers_text, store_text
from twoabove.weights import bound


def answer(scene, word, found):
    """The answer to a command with this word, whose parts stand for what was found."""
    if word in ("state", "states", "claimed", "names"):
        return _answer_of_scene(scene, word, found)
    if word in ("show", "level"):
        return _written(word, found)
    if word in ("total", "height", "bound", "greatest", "fewest"):
        return _number(word, found)
    return "yes" if _is_so(word, found) else "no"


def _answer_of_scene(scene, word, found):
    match word:
        case "state":
            return scene.states[found[0]]
        case "states":
            return told_states(scene, sorted(scene.states))
        case "claimed":
            return " ".join(scene.claims[found[0]])
        case _:
            return " ".join(sorted(scene.things)) if len(scene.things) > 0 else "-"


def _written(word, found):
    if word == "level":
        return numbers_text(level_lot(*found))
    thing = found[0]
    if isinstance(thing, Store):
        return store_text(thing)
    return numbers_text(thing)


def _number(word, found):
    match word:
        case "total":
            return str(total(*found))
        case "height":
            return str(height(*found))
        case "bound":
            return str(bound(*found))
        case "fewest":
            return str(fewest_changes(*found))
        case _:
            number = greatest(*found)
            return "none" if number is None else str(number)


def _is_so(word, found):
    if word == "same":
        return found[0] == found[1]
    if word == "flat":
        return is_flat(*found)
    return holds(word, found)
