"""A second way to what texts tell: which are readable, and up to where one can be led on, from patterns."""

import re

NUMERAL = "(?:0|[1-9][0-9]{0,5})"
WEIGHT = "(?:0|-?[1-9][0-9]{0,5})"
NUMERALS = f" *{NUMERAL} *(?:, *{NUMERAL} *)*"
NONE = " *- *"
KINDS = f"(?:{NONE}|{NUMERALS}(?:;{NUMERALS})*)"
DEED = f" *(?:(?:put|take) *{NUMERAL} *> *{NUMERAL}|miss *{NUMERAL}) *"
PATTERNS = {
    "store": f" *{NUMERAL} *:{KINDS}/{KINDS}",
    "board": NUMERALS,
    "lot": f"(?:{NONE}|{NUMERALS})",
    "weights": f" *{WEIGHT} *(?:, *{WEIGHT} *)*",
    "counts": f"(?:{NONE}|{NUMERALS})",
    "order": NUMERALS,
    "history": f"(?:{NONE}|{DEED}(?:,{DEED})*)",
    "kind": NUMERALS,
}
# Whatever can be led on at all can be led on by one of these.
DEED_ENDS = ["put0>0"[at:] for at in range(7)] + ["take0>0"[at:] for at in range(7)] + ["miss0"[at:] for at in range(5)]
ENDS = {"store": ["1", "1:1/1", ":1/1", "1/1", "/1", ""], "history": DEED_ENDS + ["1>1", ">1", "1", ""]}


def readable(sort, text):
    """Whether the text is readable as this sort."""
    return re.fullmatch(PATTERNS[sort], text) is not None


def wrong_position(sort, text):
    """The least position up to which the text cannot be led on; its length if there is none."""
    for position in range(len(text)):
        start = text[:position + 1]
        if not any(readable(sort, start + end) for end in ENDS.get(sort, ["1", ""])):
            return position
    return len(text)


def numbers(text):
    """The numbers of a text of numbers."""
    return [int(told) for told in re.findall("-?[0-9]+", text)]
