"""Texts that are written and read back, and the wrong position: promises [91] to [93]."""

import random
import unittest
from itertools import product

from tests.helpers import (
    NO_LISTS, NO_STORES, all_small_stores, check_parameters, raised, same, some_stores, wrong_boards, wrong_counts,
    wrong_lots, wrong_orders, wrong_weights,
)
from tests.text_model import numbers, readable, wrong_position
from twoabove import grammar
from twoabove.errors import (
    InvalidBoard, InvalidCounts, InvalidHistory, InvalidLot, InvalidOrder, InvalidStore, InvalidText, InvalidWeights,
)
from twoabove.readers import (
    read_board, read_counts, read_history, read_lot, read_order, read_store, read_weights,
)
from twoabove.stores import Store
from twoabove.texts import (
    board_text, counts_text, history_text, lot_text, order_text, store_text, weights_text,
)

SHOP = Store(3, [[2, 1], [0, 1]], [])
SOLD = Store(3, [[0, 1], [1, 2]], [[1, 2]])
SORTS = ("store", "board", "lot", "weights", "counts", "order", "history")
READERS = {
    "board": read_board, "lot": read_lot, "weights": read_weights, "counts": read_counts, "order": read_order,
    "history": read_history,
}
WRITERS = {
    "board": board_text, "lot": lot_text, "weights": weights_text, "counts": counts_text, "order": order_text,
    "history": history_text,
}
GOODS = {
    "store": ["3: 0,1; 1,2 / -", "3: - / 2", "3:2,1;0,1/1,2", " 8 : 0 , 7 ; 10 / 3 ", "2:-/-", "99:0,0;0/123456"],
    "board": ["2, 1, 0", "0", " 60 ,0,100000 ", "1,2,3,4,5,6,7,8,9"],
    "lot": ["0, 2", "-", " - ", "2,0", "5,5"],
    "weights": ["1, -2, 0", "-999999, 0", "0", " -1 , 20 "],
    "counts": ["3, 0", "-", "0,20", " 7 "],
    "order": ["2, 0, 1", "0,1,2", " 1 "],
    "history": ["put 0>1, take 0>2, miss 0", "-", "put0>1", "miss 12 , put 3 > 4", "take0>0,take 0>0"],
}
SIGNS = " 0123456789,;:/>-ptmuakeis\nx"


def read(sort, store, text):
    """What the reader of the sort tells of the text."""
    return read_store(text) if sort == "store" else READERS[sort](store, text)


def told_error(test, sort, store, text):
    """The position of the InvalidText that the reader raises; no answer where it raises none."""
    try:
        return True, read(sort, store, text)
    except InvalidText as error:
        test.assertEqual(list(vars(error)), ["position"])
        return False, error.position


def bent(dice, text):
    """The text with a sign left out, put in, exchanged, or two of them swapped."""
    signs = list(text)
    at = dice.randrange(len(signs) + 1)
    way = dice.randrange(4)
    if way == 0 or not signs:
        signs.insert(at, dice.choice(SIGNS))
    elif way == 1:
        del signs[at - 1]
    elif way == 2:
        signs[at - 1] = dice.choice(SIGNS)
    else:
        other = dice.randrange(len(signs))
        signs[at - 1], signs[other] = signs[other], signs[at - 1]
    return "".join(signs)


def drawn(dice, sort, store):
    """A drawn value of the sort."""
    shelves = list(range(store.shelves))
    if sort == "board":
        return [dice.choice((0, 1, 9, 10, 60)) for _ in shelves]
    if sort == "lot":
        return dice.sample(shelves, dice.randint(0, len(shelves)))
    if sort == "weights":
        return [dice.choice((0, 1, -1, 999999, -999999, -20)) for _ in shelves]
    if sort == "counts":
        return [dice.randint(0, 20) for _ in store.deliveries()]
    if sort == "order":
        return dice.sample(shelves, len(shelves))
    deeds = [("put", at, shelf) for at, kind in enumerate(store.deliveries()) for shelf in kind]
    deeds += [("take", at, shelf) for at, kind in enumerate(store.sales()) for shelf in kind]
    deeds += [("miss", at) for at in range(len(store.sales()))]
    return [dice.choice(deeds) for _ in range(dice.randint(0, 9))] if deeds else []


class WrittenTest(unittest.TestCase):
    def test_the_examples(self):
        told = [
            store_text(SHOP), board_text(SHOP, [2, 1, 0]), lot_text(SHOP, [2, 0]), lot_text(SHOP, []),
            weights_text(SHOP, [1, -2, 0]), counts_text(SHOP, [3, 0]), order_text(SHOP, [2, 0, 1]),
            history_text(SHOP, [("put", 0, 1), ("put", 1, 2)]),
        ]
        self.assertEqual(told, [
            "3: 0,1; 1,2 / -", "2, 1, 0", "0, 2", "-", "1, -2, 0", "3, 0", "2, 0, 1", "put 0>1, put 1>2",
        ])

    def test_stores(self):
        self.assertEqual(store_text(Store(2, [], [])), "2: - / -")
        self.assertEqual(store_text(Store(8, [[7], [3, 0]], [[1, 0], [6, 5, 4]])), "8: 0,3; 7 / 0,1; 4,5,6")
        self.assertEqual(store_text(Store(3, [], [[2]])), "3: - / 2")

    def test_lists(self):
        bare = Store(2, [], [[0, 1]])
        self.assertEqual(counts_text(bare, ()), "-")
        self.assertEqual(history_text(bare, []), "-")
        self.assertEqual(history_text(SOLD, (("miss", 0), ("take", 0, 2), ("put", 1, 2))), "miss 0, take 0>2, put 1>2")
        self.assertEqual(board_text(SHOP, (60, 0, 10)), "60, 0, 10")
        self.assertEqual(lot_text(SHOP, (2, 1, 0)), "0, 1, 2")
        self.assertEqual(order_text(SHOP, (2, 1, 0)), "2, 1, 0")
        self.assertEqual(weights_text(SHOP, (0, -999999, 999999)), "0, -999999, 999999")

    def test_what_is_written_is_read_back(self):
        dice = random.Random(160)
        for store in all_small_stores() + some_stores(5, 60, 161) + some_stores(8, 20, 162):
            self.assertEqual(read_store(store_text(store)), store)
            self.assertTrue(readable("store", store_text(store)))
            for sort in SORTS[1:]:
                value = drawn(dice, sort, store)
                text = WRITERS[sort](store, value)
                self.assertEqual(WRITERS[sort](store, tuple(value)), text)
                self.assertTrue(readable(sort, text))
                told = read(sort, store, text)
                self.assertTrue(same(told, sorted(value) if sort == "lot" else value))
                self.assertEqual(WRITERS[sort](store, told), text)

    def test_two_hundred_deeds(self):
        history = [("put", 1, 2)] * 200
        self.assertEqual(read_history(SOLD, history_text(SOLD, history)), history)

    def test_wrong_parameters(self):
        check_parameters(self, store_text, ("store", SHOP, InvalidStore, NO_STORES))
        store = ("store", SHOP, InvalidStore, NO_STORES)
        check_parameters(self, board_text, store, ("board", (2, 1, 0), InvalidBoard, wrong_boards(3)))
        check_parameters(self, lot_text, store, ("lot", (2, 0), InvalidLot, wrong_lots(3)))
        check_parameters(self, weights_text, store, ("weights", (2, -1, 0), InvalidWeights, wrong_weights(3)))
        check_parameters(self, counts_text, store, ("counts", (3, 0), InvalidCounts, wrong_counts(2)))
        check_parameters(self, order_text, store, ("order", (2, 0, 1), InvalidOrder, wrong_orders(3)))
        check_parameters(self, history_text, store, ("history", [("put", 0, 1)], InvalidHistory, NO_LISTS + (
            [("put", 0, 2)], [("take", 0, 1)], [("miss", 0)], [["put", 0, 1]], [("put", 0, True)], [None],
            [("put", 0, 1)] * 201, ("put", 0, 1),
        )))


class ReadableTest(unittest.TestCase):
    def test_the_examples(self):
        self.assertEqual(read_store("3:2,1;0,1/1,2"), SOLD)
        told = [
            read_store("3 : 1,0 ; 1,2 / -") == SHOP, SOLD.sales(), read_board(SHOP, "2,1 ,0"), read_lot(SHOP, "2,0"),
            read_weights(SHOP, "1,-2,0"), read_counts(SHOP, "3,0"),
        ]
        self.assertEqual(told, [True, [[1, 2]], [2, 1, 0], [0, 2], [1, -2, 0], [3, 0]])
        told = [read_history(SOLD, "put0>1,take 0>2, miss0"), read_order(SOLD, "2,0,1"), read_lot(SOLD, " - ")]
        self.assertEqual(told, [[("put", 0, 1), ("take", 0, 2), ("miss", 0)], [2, 0, 1], []])

    def test_spaces_anywhere_but_within(self):
        dice = random.Random(163)
        for sort, texts in GOODS.items():
            for text in texts:
                for _ in range(30):
                    at = dice.randint(0, len(text))
                    spaced = text[:at] + " " * dice.randint(1, 3) + text[at:]
                    good, told = told_error(self, sort, SOLD, spaced)
                    if readable(sort, spaced):
                        self.assertEqual((good, told), told_error(self, sort, SOLD, text))
                    else:
                        self.assertEqual((good, told), (False, wrong_position(sort, spaced)))

    def test_kinds_and_what_stands_in_them_in_any_sequence(self):
        store = Store(4, [[0, 1, 3], [2], [0, 2]], [[1, 3], [0, 1, 2]])
        for text in ("4:3,0,1;2;2,0/3,1;2,1,0", "4:2;0,2;1,0,3/1,2,0;1,3", "4 :2;2;0,2;1,0,3/1,3;0,1,2;3,1"):
            self.assertEqual(read_store(text), store)
        self.assertEqual(read_lot(store, "3,0,2"), [0, 2, 3])
        self.assertEqual(read_store("2:-/0;0;0;0;0;0;0;0"), Store(2, [], [[0]]))

    def test_none_where_it_is_let(self):
        self.assertEqual(read_store("2:-/-"), Store(2, [], []))
        self.assertEqual(read_store(" 2 : - / - "), Store(2, [], []))
        bare = Store(2, [], [])
        self.assertEqual([read_lot(bare, "-"), read_counts(bare, " -"), read_history(bare, "- ")], [[], [], []])
        for sort in ("board", "order"):
            self.assertEqual(told_error(self, sort, bare, "-"), (False, 0))
        self.assertEqual(told_error(self, "weights", bare, "-"), (False, 1))
        for text, position in (
            ("2:0;-/-", 4), ("2:-;0/-", 3), ("2:0,-/-", 4), ("-:0/-", 0), ("2:-0/-", 3), ("2:--/-", 3), ("2:0/-,0", 5),
        ):
            self.assertEqual(told_error(self, "store", bare, text), (False, position))
        for sort in ("lot", "counts", "history"):
            for text, position in (("- -", 2), ("-,-", 1), ("-,0", 1), ("0,-", 0 if sort == "history" else 2)):
                self.assertEqual(told_error(self, sort, bare, text), (False, position))

    def test_numerals(self):
        store = Store(2, [], [])
        for text, position in (
            ("00,1", 1), ("01,1", 1), ("1,02", 3), ("1234567,0", 6), ("100000 0", 7), ("1 0,1", 2), ("-0,1", 1),
            ("- 1,0", 1), ("--1,0", 1), ("1,-", 3), ("+1,0", 0), ("1,-01", 3), ("-1234567,0", 7), ("1,0-", 3),
            ("1_0,1", 1),
        ):
            self.assertEqual(told_error(self, "weights", store, text), (False, position), text)
        self.assertEqual(read_weights(store, "-123456, 999999"), [-123456, 999999])
        self.assertEqual(told_error(self, "board", store, "-1,0"), (False, 0))
        self.assertEqual(told_error(self, "board", store, "999999,0"), (False, None))
        self.assertEqual(told_error(self, "store", store, "000002:-/-"), (False, 1))

    def test_words(self):
        for text, position in (
            ("", 0), ("p", 1), ("pu", 2), ("p ut 0>1", 1), ("Put 0>1", 0), ("put", 3), ("put0", 4), ("put0>", 5),
            ("put 0 1", 6), ("put 0,1", 5), ("miss 0>1", 6), ("tape 0>1", 2), ("take 0>1,", 9), ("take 0>1;", 8),
            ("puts 0>1", 3), ("put 0>1 put 0>1", 8), ("miss0,,", 6), ("miss\n0", 4), ("  x", 2), ("miss", 4),
        ):
            self.assertEqual(told_error(self, "history", SOLD, text), (False, position), text)


class WrongPositionTest(unittest.TestCase):
    def check(self, sort, store, text):
        good, told = told_error(self, sort, store, text)
        if not readable(sort, text):
            self.assertEqual((good, told), (False, wrong_position(sort, text)), (sort, text))
        elif good:
            self.check_told(sort, told, text)
        else:
            self.assertIs(told, None, (sort, text))

    def check_told(self, sort, told, text):
        if sort == "store":
            self.assertEqual(read_store(store_text(told)), told)
            self.assertEqual(told.shelves, numbers(text)[0])
        elif sort == "history":
            self.assertEqual([number for deed in told for number in deed[1:]], numbers(text))
        else:
            self.assertEqual(told, sorted(numbers(text)) if sort == "lot" else numbers(text))

    def test_right_texts_with_something_changed(self):
        dice = random.Random(164)
        for sort in SORTS:
            texts = list(GOODS[sort])
            for store in some_stores(3, 10, 165):
                texts.append(store_text(store) if sort == "store" else WRITERS[sort](store, drawn(dice, sort, store)))
            for text in texts:
                for _ in range(60):
                    once = bent(dice, text)
                    self.check(sort, SOLD, once)
                    self.check(sort, SOLD, bent(dice, once))

    def test_all_short_texts(self):
        for sort in SORTS:
            signs = "put>, 01\nm" if sort == "history" else " 0:;/,-12x\n" if sort == "store" else " 0,-12\nx;"
            for many in range(5):
                for text in product(signs, repeat=many):
                    self.check(sort, SOLD, "".join(text))

    def test_led_on_from_each_start(self):
        for sort in SORTS:
            for text in GOODS[sort]:
                for many in range(len(text) + 1):
                    self.check(sort, SOLD, text[:many])
                    for sign in SIGNS:
                        self.check(sort, SOLD, text[:many] + sign)

    def test_readable_but_no_such_thing(self):
        cases = {
            "store": ["1:-/-", "9:-/-", "0:-/-", "2:2/-", "2:-/0,2", "3:0,0/-", "3:-/1,0,1", "2:0;0;0;0;0;0;0;0;0/-",
                      "3:-/0;1;2;0;1;2;0;1;2", "999999:0/-"],
            "board": ["0,0", "0,0,0,0", "61,0,0", "0,0,61", "5"],
            "lot": ["3", "0,0", "1,2,1", "0,1,2,3", "999999"],
            "weights": ["0", "1,2", "1,2,3,-4"],
            "counts": ["-", "0", "0,21", "21,0", "0,0,0"],
            "order": ["0,1", "0,1,1", "0,1,3", "0,1,2,0", "0"],
            "history": ["put 2>0", "put 0>2", "take 0>0", "take 1>1", "miss 1", "put 0>0, put 0>2",
                        ",".join(["miss0"] * 201)],
        }
        for sort, texts in cases.items():
            for text in texts:
                self.assertTrue(readable(sort, text), text)
                self.assertEqual(told_error(self, sort, SOLD, text), (False, None), text)
        self.assertEqual(read_history(SOLD, ",".join(["miss0"] * 200)), [("miss", 0)] * 200)

    def test_no_strings(self):
        for sort in SORTS:
            for value in NO_LISTS + ([], ["0"], ("0",), ["0", "1"], b"2:-/-"):
                if not isinstance(value, str):
                    self.assertEqual(told_error(self, sort, SOLD, value), (False, None))

    def test_kinds(self):
        for text in ("0", "2,1", " 0 , 7 ", "", "-", "0,", "1;2", "0,0", "01"):
            try:
                self.assertEqual(grammar.told_by("kind", text), numbers(text))
                self.assertTrue(readable("kind", text))
            except InvalidText as error:
                self.assertFalse(readable("kind", text))
                self.assertEqual(error.position, wrong_position("kind", text))

    def test_wrong_stores_come_first(self):
        for sort, reader in READERS.items():
            for wrong in NO_STORES:
                for text in (GOODS[sort][0], "x", None, 0):
                    error = raised(self, InvalidStore, lambda: reader(wrong, text))
                    self.assertTrue(same(error.value, wrong))
                    error = raised(self, InvalidStore, lambda: reader(text=text, store=wrong))
            good = WRITERS[sort](SOLD, drawn(random.Random(166), sort, SOLD))
            self.assertEqual(reader(store=SOLD, text=good), reader(SOLD, good))
        self.assertEqual(read_store(text="2:-/-"), Store(2, [], []))


if __name__ == "__main__":
    unittest.main()
