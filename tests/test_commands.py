"""The words of commands, names and labels: promises [95], [97] and [98]."""

import random
import unittest

from tests.desk_model import DEED_FORMS, QUESTION_FORMS, form_of
from tests.helpers import ANY_VALUES, NO_COUNTS, NO_LISTS
from twoabove.commands import is_command, is_desk_deed, is_name

NAMES = ["a", "s", "abcdefgh", "a1234567", "z9", "store", "undo", "x0"]
NO_NAMES = ["", "A", "1", "1a", "abcdefghi", "a-b", "a_b", "aB", "a b", "a\n", "\na", "0", "-", "a,b", "~"]
COUNTS = ["0", "1", "9", "10", "99", "20"]
NO_COUNT_WORDS = ["", "00", "01", "100", "-1", "+1", "1a", "a", "1 ", "-0", "010", "1_0", "1\n"]
TEXTS = {
    "STORE": ["3:0,1/-", "2:-/-", "9:0;1,7/3,3", "999999:0/-"], "BOARD": ["0", "2,1,0", "61,99"],
    "WEIGHTS": ["0", "-1,2", "-999999"], "COUNTS": ["-", "0,21", "7"], "KIND": ["0", "2,1", "0,0", "99"],
    "ORDER": ["0", "2,0,1"], "LOT": ["-", "0", "2,2"], "HISTORY": ["-", "put0>1", "miss0,take3>4", "put99>7"],
}
NO_TEXTS = {
    "STORE": ["", "3", "3:", "3:0,1", "3:0,1/", "3:0;/-", "03:0/-", "3:0/-x", "3:0,-/-"],
    "BOARD": ["", "-", "-1", "0,", "00"],
    "WEIGHTS": ["", "-", "-0", "1,", "--1", "1234567"], "COUNTS": ["", "-1", "-,0", "0-"],
    "KIND": ["", "-", "0;1", ",0"],
    "ORDER": ["", "-", "0,,1"], "LOT": ["", "--", "0,-", "x"],
    "HISTORY": ["", "put", "put0", "put0>", "miss0>1", "pUt0>1"],
}


def goods_of(part):
    if part.islower():
        return NAMES
    return COUNTS if part == "#" else TEXTS[part]


def wrongs_of(part):
    if part.islower():
        return NO_NAMES
    return NO_COUNT_WORDS if part == "#" else NO_TEXTS[part]


def places_of(form):
    """The places of a form behind its words, and what is wanted there."""
    return [(at, part) for at, part in enumerate(form.split(" ")) if len(part) == 1 or part.isupper()]


def filled(dice, form):
    """The parts of a command of this form, drawn."""
    wanted = dict(places_of(form))
    return [dice.choice(goods_of(part)) if at in wanted else part for at, part in enumerate(form.split(" "))]


class CommandTest(unittest.TestCase):
    def check(self, text, good, deed):
        self.assertIs(is_command(text), good, text)
        self.assertIs(is_desk_deed(text), good and deed, text)

    def test_the_examples(self):
        told = [
            is_command("store s 3:0,1/-"), is_command("store s 3: 0,1 / -"), is_desk_deed("put b s 0 1"),
            is_desk_deed("undo"), is_command("claim k ends s b c w"), is_command("level s b 02"),
        ]
        self.assertEqual(told, [True, False, True, False, True, False])

    def test_each_word_with_right_parts(self):
        dice = random.Random(180)
        for forms, deed in ((DEED_FORMS, True), (QUESTION_FORMS, False)):
            for form in forms:
                for _ in range(12):
                    self.check(" ".join(filled(dice, form)), True, deed)
                for at, part in places_of(form):
                    for good in goods_of(part):
                        parts = filled(dice, form)
                        parts[at] = good
                        self.check(" ".join(parts), True, deed)

    def test_each_part_wrong(self):
        dice = random.Random(181)
        for form in DEED_FORMS + QUESTION_FORMS:
            for at, part in places_of(form):
                for wrong in wrongs_of(part):
                    parts = filled(dice, form)
                    parts[at] = wrong
                    self.check(" ".join(parts), False, False)

    def test_parts_left_out_and_put_in(self):
        dice = random.Random(182)
        for form in DEED_FORMS + QUESTION_FORMS:
            parts = filled(dice, form)
            for at in range(1, len(parts)):
                self.check(" ".join(parts[:at] + parts[at + 1:]), False, False)
            for more in ("0", "s", "-", ""):
                self.check(" ".join(parts + [more]), False, False)
            self.check(" ".join(["x"] + parts[1:]), False, False)

    def test_blanks(self):
        dice = random.Random(183)
        for form in DEED_FORMS + QUESTION_FORMS:
            text = " ".join(filled(dice, form))
            for at in [at for at, sign in enumerate(text) if sign == " "] + [0, len(text)]:
                self.check(text[:at] + " " + text[at:], False, False)
                self.check(text[:at] + "\n" + text[at + 1:], False, False)
            self.check(text + "\n", False, False)

    def test_words(self):
        for word in ("", " ", "Undo", "UNDO", "undo1", "und", "do", "claim", "claim k", "claim k undo",
                     "claim k lay s 0",
                     "claim k same s s", "claim k flat s 0", "claim k never s 0", "claim never s 0 1",
                     "claim K never s 0 1",
                     "claim k total s b", "above s 0 1", "without s w", "barred s b w", "crowded s b c w", "parts s t",
                     "stuck s b", "state", "states k", "names n", "never n never s 0 1", "x", "-", "lines", "copy"):
            self.check(word, False, False)

    def test_texts_of_eighty_signs(self):
        for word, start, rest in (
            ("board", "1", ",1"), ("weights", "-1,-1,1", ",1"), ("counts", "20", ",1"), ("store", "2:0,10/1", ",1"),
        ):
            text = start + rest * 60
            for many in (79, 80, 81, 82):
                told = text[:many] if text[many - 1] != "," else text[:many - 2] + "10"
                self.assertEqual(len(told), many)
                self.check(f"{word} n {told}", many <= 80, True)
        deeds = ",".join(["put0>1"] * 11)
        self.assertEqual(len(deeds), 76)
        for more, many in ((",miss0", 82), ("", 76)):
            self.check(f"play b s {deeds + more}", many <= 80, True)
        self.check("flat s " + "0," * 39 + "10", True, False)
        self.check("flat s " + "0," * 39 + "0", True, False)
        self.check("flat s " + "0," * 40 + "0", False, False)

    def test_drawn_strings(self):
        dice = random.Random(184)
        for form in DEED_FORMS + QUESTION_FORMS:
            for _ in range(60):
                text = " ".join(filled(dice, form))
                at = dice.randrange(len(text))
                bent = text[:at] + dice.choice(["", dice.choice(" 01s-,;:/>\nA")]) + text[at + 1:]
                self.check(bent, form_of(bent) is not None,
                           bent.split(" ")[0] in [one.split(" ")[0] for one in DEED_FORMS])

    def test_any_value(self):
        for value in ANY_VALUES + NO_LISTS + NO_COUNTS + (["undo"], ("undo",), b"undo", ["store", "s", "2:-/-"]):
            self.assertIs(is_command(value), False, repr(value))
            self.assertIs(is_desk_deed(value), False, repr(value))
        self.assertIs(is_command(value="undo"), True)
        self.assertIs(is_desk_deed(value="drop s"), True)


class NameTest(unittest.TestCase):
    def test_names(self):
        for name in NAMES + list("abcdefghijklmnopqrstuvwxyz"):
            self.assertIs(is_name(name), True, name)
        for name in NO_NAMES + list("0123456789ABZ_-. \n{[`@/:~"):
            self.assertIs(is_name(name), False, name)
        for sign in "abcdefghijklmnopqrstuvwxyz0123456789":
            self.assertIs(is_name("a" + sign), True)
        for sign in "ABZ_-. \n{[`@/:~,;>":
            self.assertIs(is_name("a" + sign), False)
        self.assertIs(is_name(value="a"), True)

    def test_any_value(self):
        for value in ANY_VALUES + NO_LISTS + NO_COUNTS + (["a"], ("a",), b"a"):
            told = is_name(value)
            self.assertIs(told, isinstance(value, str) and value == "lay", repr(value))


if __name__ == "__main__":
    unittest.main()
