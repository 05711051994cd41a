"""What a desk keeps and notes at one time, and the states of its claims."""

from twoabove.claims import copied, is_claim, is_true
from twoabove.commands import CLAIMS
from twoabove.errors import LabelTaken, NameTaken, UnknownLabel, UnknownName


class Scene:
    """What is kept, by names, what is claimed, by labels, and the states of the labels. It never changes.

    Each thing is a tuple of its sort and the Store or list; each claim a tuple of the words behind its label.
    """

    def __init__(self, things, claims, states):
        self.things = things
        self.claims = claims
        self.states = states


def scene_behind(ahead, things, claims):
    """The scene with these things and claims behind the one ahead."""
    states = {label: _state(ahead, things, label, claims[label]) for label in claims}
    return Scene(things, claims, states)


def claim_of_words(things, words):
    """The claim that the words tell of what is kept; None if they tell none."""
    word, *parts = words
    claim = (word,) + tuple([_part_now(things, sort, part) for sort, part in zip(CLAIMS[word], parts)])
    if is_claim(claim):
        return claim
    return None


def found_parts(scene, sorts, parts):
    """What the parts of a command stand for: things in the place of their names."""
    found = []
    sort_ahead = None
    for sort, part in zip(sorts, parts):
        wanted = sort_ahead if sort == "alike" else sort
        if wanted in ("any", "store", "board", "weights", "counts"):
            sort_ahead, thing = _kept(scene.things, wanted, part)
            found.append(thing)
        else:
            _check_label_or_new(scene, sort, part)
            found.append(part)
    return found


def told_states(scene, labels):
    """These labels, each with its state."""
    if len(labels) == 0:
        return "-"
    return ", ".join([f"{label} {scene.states[label]}" for label in labels])


def told_changes(ahead, scene):
    """The labels whose states are not as they were ahead."""
    return told_states(scene, [label for label in sorted(scene.states) if _is_changed(ahead, scene, label)])


def _is_changed(ahead, scene, label):
    return ahead.states.get(label) != scene.states[label]


def _state(ahead, things, label, words):
    # Most deeds leave most claims alone, and what makes up their states may take long.
    if ahead.claims.get(label) == words and all([things.get(word) == ahead.things.get(word) for word in words]):
        return ahead.states[label]
    claim = claim_of_words(things, words)
    if claim is None:
        return "gone"
    return "true" if is_true(claim) else "false"


def _part_now(things, sort, part):
    if sort == "COUNT":
        return int(part)
    if part in things and things[part][0] == sort:
        return copied(things[part][1])
    return None


def _kept(things, wanted, name):
    if name not in things or wanted not in ("any", things[name][0]):
        raise UnknownName(name)
    sort, thing = things[name]
    return sort, copied(thing)


def _check_label_or_new(scene, sort, part):
    if sort == "NEW" and part in scene.things:
        raise NameTaken(part)
    if sort == "NEW LABEL" and part in scene.claims:
        raise LabelTaken(part)
    if sort == "LABEL" and part not in scene.claims:
        raise UnknownLabel(part)
