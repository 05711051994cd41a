"""What texts tell, by their signs alone: each sort of text is read sign by sign.

Whether what a text tells is a store, or a board of some store, is asked elsewhere.
"""

from twoabove.errors import InvalidText

FIGURES = "0123456789"
FIRST_FIGURES = "123456789"
MOST_FIGURES = 6
DEED_WORDS = {"p": "put", "t": "take", "m": "miss"}


class Scan:
    """A text that is read from its start on; it fails at the first sign that cannot stand there."""

    def __init__(self, text):
        self.text = text
        self.at = 0

    def sees(self, signs):
        """Whether one of these signs is next."""
        return self.at < len(self.text) and self.text[self.at] in signs

    def skip(self):
        """Go past all spaces that are next."""
        while self.sees(" "):
            self.at += 1

    def take(self, signs):
        """The next sign, which must be one of these."""
        if not self.sees(signs):
            raise InvalidText(self.at)
        self.at += 1
        return self.text[self.at - 1]

    def finds(self, sign):
        """Whether the sign is next behind any spaces; if so, go past it."""
        self.skip()
        if not self.sees(sign):
            return False
        self.take(sign)
        return True

    def need(self, sign):
        """Go past the sign, which must be next behind any spaces."""
        self.skip()
        self.take(sign)

    def end(self):
        """Nothing but spaces may be left."""
        self.skip()
        if self.at < len(self.text):
            raise InvalidText(self.at)


def told_by(sort, text):
    """What the text tells, read as this sort of text: InvalidText(position) unless it is readable."""
    if not isinstance(text, str):
        raise InvalidText(None)
    part = PARTS[sort]
    scan = Scan(text)
    told = part(scan)
    scan.end()
    return told


def _figures(scan, firsts):
    figures = scan.take(firsts)
    while figures[0] != "0" and len(figures) < MOST_FIGURES and scan.sees(FIGURES):
        figures += scan.take(FIGURES)
    return int(figures)


def _numeral(scan):
    scan.skip()
    return _figures(scan, FIGURES)


def _weight(scan):
    scan.skip()
    if scan.sees("-"):
        scan.take("-")
        return -_figures(scan, FIRST_FIGURES)
    return _figures(scan, FIGURES)


def _parts(scan, sign, part):
    # One or more parts with the sign between.
    told = [part(scan)]
    while scan.finds(sign):
        told.append(part(scan))
    return told


def _numerals(scan):
    return _parts(scan, ",", _numeral)


def _weights(scan):
    return _parts(scan, ",", _weight)


def _counts(scan):
    if scan.finds("-"):
        return []
    return _numerals(scan)


def _lot(scan):
    return sorted(_counts(scan))


def _kinds(scan):
    if scan.finds("-"):
        return []
    return _parts(scan, ";", _numerals)


def _store(scan):
    shelves = _numeral(scan)
    scan.need(":")
    deliveries = _kinds(scan)
    scan.need("/")
    return shelves, deliveries, _kinds(scan)


def _deed(scan):
    scan.skip()
    word = DEED_WORDS[scan.take("ptm")]
    for sign in word[1:]:
        scan.take(sign)
    position = _numeral(scan)
    if word == "miss":
        return word, position
    scan.need(">")
    return word, position, _numeral(scan)


def _history(scan):
    if scan.finds("-"):
        return []
    return _parts(scan, ",", _deed)


PARTS = {
    "store": _store, "board": _numerals, "lot": _lot, "weights": _weights, "counts": _counts, "order": _numerals,
    "history": _history, "kind": _numerals,
}
