"""A second, plain desk: it keeps nothing but lines, and does all of them again whenever it is asked."""

import re

from tests.text_model import numbers, readable
from twoabove import errors
from twoabove.aboves import never_two_above
from twoabove.boards import height, level_lot, total
from twoabove.changes import fewest_changes
from twoabove.claims import is_claim, is_true
from twoabove.deeds import done, played
from twoabove.flats import is_flat
from twoabove.fullest import comes_fullest
from twoabove.leans import lean, lets_all
from twoabove.looks import comes
from twoabove.stores import Store, beside, renamed, with_delivery, with_sale, without_delivery, without_sale
from twoabove.sums import greatest
from twoabove.tolds import can_end
from twoabove.weights import bound, stays_below

NAME = "[a-z][a-z0-9]{0,7}"
COUNT = "(?:0|[1-9][0-9]?)"
CLAIM_FORMS = (
    "never s # #|above s # #|below s w|without s w|comes s b b|barred s b b|ends s b c b|crowded s b c b|lets s s|"
    "parts s s|fullest s b|stuck s b"
).split("|")
DEED_FORMS = (
    "store n STORE|board n BOARD|weights n WEIGHTS|counts n COUNTS|beside n s s|lean n s|lay s KIND|sell s KIND|"
    "unlay s #|unsell s #|turn s ORDER|put b s # #|take b s # #|miss b s #|play b s HISTORY|drop a|forget l"
).split("|") + [f"claim k {form}" for form in CLAIM_FORMS]
QUESTION_FORMS = (
    "undo|redo|state l|states|claimed l|names|show a|total s b|height s b|level s b #|flat s LOT|never s # #|below s w|"
    "comes s b b|ends s b c b|fullest s b|lets s s|bound s w|greatest s w|fewest s # #|same a o"
).split("|")
SORTS = {"s": "store", "b": "board", "w": "weights", "c": "counts"}


def fits_form(form, parts):
    """Whether the parts of a string are those of a command of the form."""
    wanted = form.split(" ")
    return len(wanted) == len(parts) and all(_fits(one, part) for one, part in zip(wanted, parts))


def _fits(wanted, part):
    if wanted == "#":
        return re.fullmatch(COUNT, part) is not None
    if wanted.isupper():
        return len(part) <= 80 and " " not in part and readable(wanted.lower(), part)
    return re.fullmatch(NAME, part) is not None if len(wanted) == 1 else wanted == part


def form_of(command):
    """The form of a command, None if it is none."""
    if not isinstance(command, str):
        return None
    parts = command.split(" ")
    found = [form for form in DEED_FORMS + QUESTION_FORMS if fits_form(form, parts)]
    return found[0] if found else None


def told_by(form, part):
    """What a text tells."""
    if form == "STORE":
        shelves, kinds = part.split(":")
        deliveries, sales = [
            [] if sort.strip() == "-" else [numbers(kind) for kind in sort.split(";")] for sort in kinds.split("/")
        ]
        return int(shelves), deliveries, sales
    if form == "HISTORY":
        deeds = [] if part == "-" else part.split(",")
        return [(re.match("[a-z]+", deed).group(), *numbers(deed)) for deed in deeds]
    return sorted(numbers(part)) if form == "LOT" else numbers(part)


def written(value):
    """What is kept, written."""
    if not isinstance(value, Store):
        return ", ".join(map(str, value)) or "-"
    sorts = (value.deliveries(), value.sales())
    kinds = ["; ".join(",".join(map(str, kind)) for kind in told) or "-" for told in sorts]
    return f"{value.shelves}: {kinds[0]} / {kinds[1]}"


class Model:
    """What a desk is to do, with its things and claims made anew for each call."""

    def __init__(self):
        self.past = []
        self.future = []

    def kept(self, lines=None):
        things, claims = {}, {}
        for line in self.past if lines is None else lines:
            self.deed(things, claims, line)
        return things, claims

    def parts_of(self, things, claims, command):
        """What stands behind the word, found; the first that is not so is raised."""
        form, found, ahead = form_of(command).split(" "), [], None
        for wanted, part in list(zip(form, command.split(" ")))[1:]:
            if wanted == "n" and part in things:
                raise errors.NameTaken(part)
            if wanted == "k" and part in claims:
                raise errors.LabelTaken(part)
            if wanted == "l" and part not in claims:
                raise errors.UnknownLabel(part)
            if wanted in "sbwcao" and len(wanted) == 1:
                sort = {"a": things.get(part, [None])[0], "o": ahead}.get(wanted, SORTS.get(wanted))
                if part not in things or things[part][0] != sort:
                    raise errors.UnknownName(part)
                ahead = things[part][0]
                found.append(things[part][1])
            elif wanted == "#":
                found.append(int(part))
            else:
                found.append(told_by(wanted, part) if wanted.isupper() else part)
        return found

    def deed(self, things, claims, line):
        word, name, *words = line.split(" ")
        found = self.parts_of(things, claims, line)
        if word == "claim":
            claim = tuple(found[1:])
            if not is_claim(claim):
                raise errors.InvalidClaim(claim)
            claims[name] = words
        elif word == "forget":
            del claims[name]
        elif word == "drop":
            del things[name]
        else:
            things[name] = self.thing(word, found)
        for what, many in (("names", things), ("labels", claims)):
            if len(many) > 12:
                raise errors.TooMany(what, 12)

    def thing(self, word, found):
        if word == "store":
            return "store", Store(*found[1])
        if word in ("beside", "lean"):
            return "store", {"beside": beside, "lean": lean}[word](*found[1:])
        makers = {"lay": with_delivery, "sell": with_sale, "unlay": without_delivery, "unsell": without_sale}
        makers["turn"] = renamed
        if word in makers:
            return "store", makers[word](*found)
        if word in ("put", "take", "miss"):
            return "board", done(found[1], found[0], (word, *found[2:]))
        if word == "play":
            return "board", played(found[1], found[0], found[2])
        told = found[1]
        if word == "board" and not (2 <= len(told) <= 8 and max(told) <= 60):
            raise errors.InvalidBoard(told)
        if word == "weights" and not 2 <= len(told) <= 8:
            raise errors.InvalidWeights(told)
        if word == "counts" and not (len(told) <= 8 and max(told, default=0) <= 20):
            raise errors.InvalidCounts(told)
        return word, told

    def claim(self, things, words):
        """The claim of the words, None where they tell none."""
        form = [form for form in CLAIM_FORMS if form.startswith(words[0] + " ")][0].split(" ")
        claim = [words[0]]
        for wanted, part in list(zip(form, words))[1:]:
            if wanted == "#":
                claim.append(int(part))
            elif things.get(part, [None])[0] == SORTS[wanted]:
                claim.append(things[part][1])
        return tuple(claim) if is_claim(tuple(claim)) else None

    def states(self, things, claims):
        told = {label: self.claim(things, words) for label, words in claims.items()}
        return {label: "gone" if claim is None else str(is_true(claim)).lower() for label, claim in told.items()}

    def do(self, command):
        form = form_of(command)
        if form is None:
            raise errors.InvalidCommand(command)
        if form == "undo":
            if not self.past:
                raise errors.NothingToUndo()
            self.future.append(self.past.pop())
            return self.future[-1]
        if form == "redo":
            if not self.future:
                raise errors.NothingToRedo()
            self.past.append(self.future.pop())
            return self.past[-1]
        things, claims = self.kept()
        ahead = self.states(things, claims)
        if form in QUESTION_FORMS:
            return self.answer(things, claims, ahead, command)
        self.deed(things, claims, command)
        if len(self.past) == 300:
            raise errors.TooMany("deeds", 300)
        self.past.append(command)
        self.future = []
        behind = self.states(things, claims)
        return self.listed({label: state for label, state in behind.items() if ahead.get(label) != state})

    def listed(self, states):
        return ", ".join(f"{label} {state}" for label, state in sorted(states.items())) or "-"

    def answer(self, things, claims, states, command):
        word, *parts = command.split(" ")
        found = self.parts_of(things, claims, command)
        if word in ("states", "names"):
            return self.listed(states) if word == "states" else " ".join(sorted(things)) or "-"
        if word in ("state", "claimed"):
            return states[parts[0]] if word == "state" else " ".join(claims[parts[0]])
        if word == "show":
            return written(found[0])
        if word == "same":
            return "yes" if found[0] == found[1] else "no"
        functions = {
            "total": total, "height": height, "level": level_lot, "flat": is_flat, "never": never_two_above,
            "below": stays_below, "comes": comes, "ends": can_end, "fullest": comes_fullest, "lets": lets_all,
            "bound": bound, "greatest": greatest, "fewest": fewest_changes,
        }
        told = functions[word](*found)
        if isinstance(told, list):
            return written(told)
        return {True: "yes", False: "no", None: "none"}[told] if told in (True, False, None) and (
            isinstance(told, bool) or told is None) else str(told)
