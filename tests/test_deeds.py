"""Deeds, the custom and playing: promises [7], [31] and [32]."""

import random
import unittest
from itertools import product

from tests.helpers import (
    NO_LISTS, NO_STORES, NO_TUPLES, all_small_stores, check_parameters, raised, some_stores, wrong_boards,
    wrong_positions,
)
from twoabove.deeds import boards, done, first_barred, played, put_shelves, take_shelves
from twoabove.errors import (
    BarredAt, InvalidBoard, InvalidDeed, InvalidHistory, InvalidPosition, InvalidStore, NotCustom, TooMany,
)
from twoabove.stores import Store

SHOP = Store(3, [[0, 1], [1, 2]], [[1, 2]])
WRONG_DEEDS = NO_TUPLES + (
    (), ("put",), ("put", 0), ("put", 0, 2), ("put", 1, 0), ("put", 2, 0), ("put", 0, 0, 0), ("put", -1, 0),
    ("put", 0, -1), ("put", 0, 3), ("put", True, 1), ("put", False, 0), ("put", 0, True), ("put", 0, False),
    ("put", None, 0), ("put", 0, None), ("put", 0, "0"), ("put", "0", 0), ("put", [0], 0), ("put", 0, [0]),
    ("put", 0, 10 ** 29), ("take", 0, 0), ("take", 1, 1), ("take", 0), ("take", 0, True), ("take", False, 1),
    ("take", 0, 1, 1), ("take", 0, 3), ("take", 0, None), ("take", None, None), ("miss",), ("miss", 1), ("miss", -1),
    ("miss", False), ("miss", None), ("miss", "0"), ("miss", 0, 0), ("miss", 0, 1), ("lay", 0), ("off", 0),
    ("Put", 0, 0), ("", 0, 0), (None, 0, 0), (0, 0, 0), (["put"], 0, 0), (b"put", 0, 0), ["take", 0, 1], ["miss", 0],
    ("put", Store(2, [], []), 0), (Store(2, [], []), 0), {"put": 0}, ("putput", 0, 0),
)


def wrong_histories():
    """No histories of the example's store."""
    inside = tuple([("put", 0, 0), wrong, ("put", 0, 1)] for wrong in WRONG_DEEDS)
    return NO_LISTS + inside + ([("miss", 0)] * 201, (("put", 0, 0),) * 201, ("put", 0, 0), ["put", 0, 0], [[]], [()])


def all_deeds(store):
    """All deeds of the store."""
    puts = [("put", at, shelf) for at, kind in enumerate(store.deliveries()) for shelf in kind]
    takes = [("take", at, shelf) for at, kind in enumerate(store.sales()) for shelf in kind]
    return puts + takes + [("miss", at) for at in range(len(store.sales()))]


def second_behind(store, board, deed):
    """The board behind a deed; None if it is not by the custom."""
    word, at, *shelf = deed
    kind = (store.deliveries() if word == "put" else store.sales())[at]
    if word == "miss":
        return list(board) if all(board[k] == 0 for k in kind) else None
    shelf, = shelf
    if word == "put":
        return more(board, shelf, 1) if all(board[shelf] <= board[k] for k in kind) else None
    return more(board, shelf, -1) if all(board[shelf] >= board[k] for k in kind) and board[shelf] else None


def more(board, shelf, pieces):
    """The board with so many pieces more on the shelf."""
    return [held + pieces if k == shelf else held for k, held in enumerate(board)]


def rolled(store, board, many, dice):
    """A history by the custom of so many deeds (fewer where none is), with its boards."""
    history, row = [], [list(board)]
    for _ in range(many):
        lets = [deed for deed in all_deeds(store) if second_behind(store, row[-1], deed) is not None]
        lets = [deed for deed in lets if max(second_behind(store, row[-1], deed)) <= 60]
        if not lets:
            break
        history.append(dice.choice(lets))
        row.append(second_behind(store, row[-1], history[-1]))
    return history, row


class LotsTest(unittest.TestCase):
    def test_the_examples(self):
        told = [
            put_shelves(SHOP, [2, 1, 0], 0), take_shelves(SHOP, [2, 1, 1], 0), take_shelves(SHOP, [2, 0, 0], 0),
            done(SHOP, [1, 0, 0], ("put", 0, 1)), done(SHOP, [1, 0, 0], ("miss", 0)),
        ]
        self.assertEqual(told, [[1], [1, 2], [], [1, 1, 0], [1, 0, 0]])
        history = [("put", 0, 0), ("put", 0, 1), ("put", 1, 2), ("take", 0, 1)]
        told = [
            first_barred(SHOP, [0, 0, 0], [("put", 0, 0), ("put", 0, 0)]), played(SHOP, [0, 0, 0], history),
            boards(SHOP, [0, 2, 1], [("take", 0, 1)]),
        ]
        self.assertEqual(told, [1, [1, 0, 1], [[0, 2, 1], [0, 1, 1]]])

    def test_put_lots_and_take_lots(self):
        for store in some_stores(3, 60, 2):
            for board in product(range(3), repeat=3):
                for at, kind in enumerate(store.deliveries()):
                    told = [k for k in kind if second_behind(store, board, ("put", at, k)) is not None]
                    self.assertEqual(put_shelves(store, board, at), told)
                for at, kind in enumerate(store.sales()):
                    told = [k for k in kind if second_behind(store, board, ("take", at, k)) is not None]
                    self.assertEqual(take_shelves(store, list(board), at), told)

    def test_wrong_parameters(self):
        check_parameters(
            self, put_shelves,
            ("store", SHOP, InvalidStore, NO_STORES), ("board", (1, 0, 60), InvalidBoard, wrong_boards(3)),
            ("position", 1, InvalidPosition, wrong_positions(2)),
        )
        check_parameters(
            self, take_shelves,
            ("store", SHOP, InvalidStore, NO_STORES), ("board", [1, 0, 60], InvalidBoard, wrong_boards(3)),
            ("position", 0, InvalidPosition, wrong_positions(1)),
        )

    def test_told_is_new(self):
        put_shelves(SHOP, [0, 0, 0], 0).append(2)
        take_shelves(SHOP, [1, 1, 1], 0).append(2)
        self.assertEqual(SHOP, Store(3, [[0, 1], [1, 2]], [[1, 2]]))
        self.assertEqual(put_shelves(SHOP, [0, 0, 0], 0), [0, 1])


class DoneTest(unittest.TestCase):
    def test_all_deeds_on_small_boards(self):
        for store in all_small_stores():
            for board in product((0, 1, 2, 60), repeat=2):
                for deed in all_deeds(store):
                    self.check_deed(store, board, deed)

    def check_deed(self, store, board, deed):
        told = second_behind(store, board, deed)
        if told is None:
            raised(self, NotCustom, lambda: done(store, board, deed))
        elif max(told) > 60:
            error = raised(self, TooMany, lambda: done(store, board, deed))
            self.assertEqual((error.what, error.limit), ("pieces", 60))
        else:
            self.assertEqual(done(store, board, deed), told)
            self.assertEqual(done(store, list(board), deed), told)

    def test_invalid_deed_comes_ahead_of_not_custom(self):
        for wrong in WRONG_DEEDS:
            self.assertEqual(raised(self, InvalidDeed, lambda: done(SHOP, [0, 5, 0], wrong)).value, wrong)
        raised(self, NotCustom, lambda: done(SHOP, [0, 5, 0], ("put", 0, 1)))
        raised(self, NotCustom, lambda: done(SHOP, [0, 5, 0], ("miss", 0)))
        raised(self, NotCustom, lambda: done(SHOP, [5, 0, 0], ("take", 0, 1)))

    def test_a_shelf_at_sixty(self):
        self.assertEqual(done(SHOP, [59, 60, 0], ("put", 0, 0)), [60, 60, 0])
        self.assertEqual(done(SHOP, [0, 60, 0], ("take", 0, 1)), [0, 59, 0])
        raised(self, NotCustom, lambda: done(SHOP, [59, 60, 0], ("put", 0, 1)))
        raised(self, TooMany, lambda: done(SHOP, [60, 60, 0], ("put", 0, 1)))

    def test_wrong_parameters(self):
        check_parameters(
            self, done,
            ("store", SHOP, InvalidStore, NO_STORES), ("board", [1, 0, 0], InvalidBoard, wrong_boards(3)),
            ("deed", ("put", 0, 1), InvalidDeed, WRONG_DEEDS),
        )

    def test_told_is_new(self):
        for deed in (("put", 0, 0), ("miss", 0)):
            board = [0, 0, 0]
            done(SHOP, board, deed).append(7)
            self.assertEqual(board, [0, 0, 0])


class PlayedTest(unittest.TestCase):
    def test_histories_by_the_custom(self):
        dice = random.Random(11)
        for store in some_stores(4, 60, 12):
            for start in ([0, 0, 0, 0], (3, 0, 60, 1)):
                history, row = rolled(store, start, dice.choice((0, 1, 7, 30)), dice)
                self.assertEqual(boards(store, start, history), row)
                self.assertEqual(boards(store, start, tuple(history)), row)
                self.assertEqual(len(row), len(history) + 1)
                self.assertEqual(played(store, start, history), row[-1])
                self.assertIs(first_barred(store, start, history), None)

    def test_barred_at_the_first_in_between_at_the_last(self):
        dice = random.Random(13)
        for store in some_stores(3, 60, 14):
            history, row = rolled(store, [0, 1, 4], 6, dice)
            for at, board in enumerate(row):
                for wrong in all_deeds(store):
                    if second_behind(store, board, wrong) is None:
                        self.check_barred(store, history[:at] + [wrong] + history[at:], at)
                        self.check_barred(store, tuple(history[:at]) + (wrong,), at)

    def check_barred(self, store, history, at):
        for function in (played, boards):
            self.assertEqual(raised(self, BarredAt, lambda: function(store, [0, 1, 4], history)).position, at)
        self.assertEqual(first_barred(store, [0, 1, 4], history), at)

    def test_the_empty_history(self):
        board = [1, 0, 60]
        for empty in ([], ()):
            self.assertEqual(played(SHOP, board, empty), board)
            self.assertEqual(boards(SHOP, tuple(board), empty), [board])
            self.assertIs(first_barred(SHOP, board, empty), None)

    def test_two_hundred_deeds(self):
        history = [("put", 0, 0), ("put", 0, 1), ("take", 0, 1), ("miss", 0)] + [("miss", 0)] * 196
        self.assertEqual(played(SHOP, [0, 0, 0], history), [1, 0, 0])
        self.assertEqual(len(boards(SHOP, [0, 0, 0], history)), 201)
        self.assertEqual(first_barred(SHOP, [0, 0, 0], history[:199] + [("take", 0, 1)]), 199)
        more_deeds = history + [("miss", 0)]
        for function in (played, boards, first_barred):
            caught = raised(self, InvalidHistory, lambda: function(SHOP, [0, 0, 0], more_deeds))
            self.assertIs(caught.value, more_deeds)

    def test_barred_or_too_many_whichever_comes_first(self):
        full, barred = ("put", 0, 0), ("take", 0, 2)
        for function in (played, boards, first_barred):
            error = raised(self, TooMany, lambda: function(SHOP, [60, 60, 0], [full, barred]))
            self.assertEqual((error.what, error.limit), ("pieces", 60))
            raised(self, TooMany, lambda: function(SHOP, [60, 59, 0], [("put", 0, 1), full]))
        for function in (played, boards):
            self.assertEqual(raised(self, BarredAt, lambda: function(SHOP, [60, 60, 0], [barred, full])).position, 0)
        self.assertEqual(first_barred(SHOP, [60, 60, 0], [barred, full]), 0)
        self.assertEqual(first_barred(SHOP, [60, 59, 0], [("put", 0, 1), barred, full]), 1)
        self.assertEqual(played(SHOP, [60, 59, 0], [("put", 0, 1)]), [60, 60, 0])

    def test_wrong_parameters(self):
        for function in (played, boards, first_barred):
            check_parameters(
                self, function,
                ("store", SHOP, InvalidStore, NO_STORES), ("board", (1, 0, 0), InvalidBoard, wrong_boards(3)),
                ("history", [("put", 0, 1)], InvalidHistory, wrong_histories()),
            )

    def test_a_wrong_deed_behind_a_barred_one(self):
        history = [("take", 0, 1), ("put", 0, 2)]
        for function in (played, boards, first_barred):
            self.assertIs(raised(self, InvalidHistory, lambda: function(SHOP, [0, 0, 0], history)).value, history)

    def test_told_is_new(self):
        board, history = [0, 0, 0], [("put", 0, 0), ("miss", 0)]
        row = boards(SHOP, board, history)
        row[0].append(1)
        self.assertEqual(row[1:], [[1, 0, 0], [1, 0, 0]])
        row[1].append(1)
        self.assertEqual(row[2], [1, 0, 0])
        played(SHOP, board, []).append(1)
        self.assertEqual((board, history), ([0, 0, 0], [("put", 0, 0), ("miss", 0)]))


if __name__ == "__main__":
    unittest.main()
