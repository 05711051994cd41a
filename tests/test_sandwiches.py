"""Sandwiches of boards, and of boards behind histories: promise [34]."""

import random
import unittest
from itertools import permutations, product

from tests.helpers import (
    NO_STORES, all_boards, all_lots, all_small_stores, behind_all, check_judge, check_parameters, raised,
    second_closure, some_stores, wrong_boards, wrong_lots,
)
from tests.test_deeds import rolled, wrong_histories
from twoabove.deeds import played
from twoabove.errors import BarredAt, InvalidBoard, InvalidHistory, InvalidStore, TooMany
from twoabove.sandwiches import board_sandwich, is_sandwich, sandwich
from twoabove.stores import Store

SHOP = Store(3, [[0, 1], [1, 2]], [[1, 2]])


def second_is_sandwich(store, board, lots):
    """Whether a list of lots is a sandwich, from the words of the promise."""
    flats = second_closure(store, [])
    levels = [{shelf for shelf, pieces in enumerate(board) if pieces >= level} for level in range(max(board) + 2)]
    if len(lots) != max(board):
        return False
    return all(
        sorted(lot) in flats and levels[level + 1] <= set(lot) <= levels[level] for level, lot in enumerate(lots)
    )


class BoardTest(unittest.TestCase):
    def test_the_examples(self):
        told = [
            is_sandwich(SHOP, [2, 0, 0], [[1, 0], [0]]), is_sandwich(SHOP, [2, 0, 0], [[0], [0, 1]]),
            is_sandwich(SHOP, [0, 0, 0], []), board_sandwich(SHOP, [0, 2, 0]), board_sandwich(SHOP, [2, 0, 0])[1],
            len(sandwich(SHOP, [("put", 1, 1), ("put", 1, 2)])),
        ]
        self.assertEqual(told, [True, False, True, None, [0], 1])

    def test_small_boards_against_all_lists_of_lots(self):
        for store in all_small_stores()[::3] + some_stores(3, 12, 40):
            lots = all_lots(store.shelves)
            for board in all_boards(store.shelves, 2):
                rows = [list(row) for row in product(lots, repeat=max(board))]
                rights = [row for row in rows if second_is_sandwich(store, board, row)]
                told = board_sandwich(store, board)
                self.assertIs(told is None, not rights)
                self.assertTrue(told is None or told in rights)
                self.assertEqual([row for row in rows if is_sandwich(store, board, row)], rights)

    def test_too_many_lots_and_too_few(self):
        for store in some_stores(3, 12, 41):
            for board in all_boards(3, 3):
                told = board_sandwich(store, board)
                if told is None:
                    continue
                self.assertIs(is_sandwich(store, board, told), True)
                self.assertIs(is_sandwich(store, tuple(board), tuple(tuple(lot[::-1]) for lot in told)), True)
                for wrong in (told[1:], told[:-1], told + [[]], [[0, 1, 2]] + told, told + told[-1:]):
                    self.assertIs(is_sandwich(store, board, wrong), wrong == told)

    def test_lots_exchanged_left_out_put_in(self):
        dice = random.Random(42)
        for store in some_stores(4, 60, 43):
            _, row = rolled(store, [0, 0, 0, 0], 25, dice)
            told = board_sandwich(store, row[-1])
            papers = [list(paper) for paper in permutations(told)] if len(told) < 5 else [told, told[::-1]]
            for at, lot in enumerate(told):
                for shelf in range(4):
                    other = sorted(set(lot) ^ {shelf})
                    papers.append(told[:at] + [other] + told[at + 1:])
            for paper in papers:
                self.assertIs(is_sandwich(store, row[-1], paper), second_is_sandwich(store, row[-1], paper))

    def test_one_shelf_too_few_or_too_many(self):
        every = Store(3, [[0], [1], [2]], [])
        board = [2, 1, 0]
        self.assertIs(is_sandwich(every, board, [[0, 1], [0]]), True)
        self.assertIs(is_sandwich(every, board, [[0, 1, 2], [0, 1]]), True)
        self.assertIs(is_sandwich(every, board, [[0], [0]]), False)         # 1 stands at level 1
        self.assertIs(is_sandwich(every, board, [[0, 1], [1]]), False)      # 0 stands at level 2
        self.assertIs(is_sandwich(every, board, [[0, 1], [0, 2]]), False)   # 2 does not stand at level 1
        self.assertIs(is_sandwich(every, board, [[0, 1], [0, 0]]), False)
        self.assertIs(is_sandwich(every, board, [[0, 1], [False]]), False)
        self.assertIs(is_sandwich(every, board, [[0, True], [0]]), False)
        self.assertIs(is_sandwich(Store(3, [[0, 1, 2]], []), board, [[0, 1], [0]]), False)

    def test_the_empty_board(self):
        for store in (SHOP, Store(3, [], [])):
            self.assertEqual(board_sandwich(store, [0, 0, 0]), [])
            self.assertIs(is_sandwich(store, [0, 0, 0], ()), True)
            self.assertIs(is_sandwich(store, [0, 0, 0], [[]]), False)

    def test_none(self):
        self.assertIs(board_sandwich(SHOP, [0, 2, 0]), None)
        self.assertIs(board_sandwich(Store(2, [], []), [1, 0]), None)
        self.assertIs(board_sandwich(Store(2, [[0, 1]], []), [60, 58]), None)
        self.assertEqual(board_sandwich(Store(2, [[0, 1]], []), [60, 59]), [[0, 1]] * 60)

    def test_any_value(self):
        check_judge(self, lambda value: is_sandwich(SHOP, [1, 0, 0], value), [[0]], [[0, 1]], ([1, 0],), ((0,),))
        check_judge(self, lambda value: is_sandwich(SHOP, [0, 0, 0], value), [], ())
        for wrong in wrong_lots(3):
            self.assertIs(is_sandwich(SHOP, [2, 0, 0], [[0], wrong]), False)
        self.assertIs(is_sandwich(SHOP, [2, 0, 0], {0: [0], 1: [0]}), False)

    def test_wrong_parameters(self):
        stores = ("store", SHOP, InvalidStore, NO_STORES)
        boards = ("board", (2, 1, 0), InvalidBoard, wrong_boards(3))
        check_parameters(self, board_sandwich, stores, boards)
        check_parameters(self, is_sandwich, stores, boards, ("value", [[0, 1], (0,)], None, ()))

    def test_told_is_new(self):
        told = board_sandwich(SHOP, [3, 1, 0])
        told[1].append(2)
        told.append([])
        self.assertEqual(board_sandwich(SHOP, [3, 1, 0]), board_sandwich(SHOP, (3, 1, 0)))
        self.assertIs(is_sandwich(SHOP, [3, 1, 0], board_sandwich(SHOP, [3, 1, 0])), True)
        alike = board_sandwich(Store(2, [[0, 1]], []), [3, 3])
        alike[0].append(7)
        self.assertEqual(alike[1:], [[0, 1], [0, 1]])


class HistoryTest(unittest.TestCase):
    def check_history(self, store, history):
        board = played(store, [0] * store.shelves, history)
        told = sandwich(store, history)
        self.assertTrue(second_is_sandwich(store, board, told), (board, told))
        self.assertIs(is_sandwich(store, board, told), True)
        self.assertEqual(sandwich(store, tuple(history)), told)
        self.assertEqual(board_sandwich(store, board), told)

    def test_each_board_behind_a_history_has_one(self):
        dice = random.Random(44)
        for store in all_small_stores()[::2] + some_stores(3, 60, 45) + some_stores(5, 30, 46):
            for many in (0, 1, 5, 40):
                self.check_history(store, rolled(store, [0] * store.shelves, many, dice)[0])

    def test_each_board_of_a_search_has_one(self):
        for store in all_small_stores()[::2] + some_stores(3, 15, 47):
            for board in behind_all(store, 3):
                self.assertTrue(second_is_sandwich(store, board, board_sandwich(store, board)), board)

    def test_barred_or_too_many_whichever_comes_first(self):
        tower = Store(2, [[0]], [[0]])
        puts, barred = [("put", 0, 0)] * 60, ("miss", 0)
        self.assertEqual(sandwich(tower, puts), [[0]] * 60)
        self.assertEqual(raised(self, BarredAt, lambda: sandwich(tower, puts + [barred])).position, 60)
        self.assertEqual(raised(self, BarredAt, lambda: sandwich(tower, puts + [barred] + puts)).position, 60)
        error = raised(self, TooMany, lambda: sandwich(tower, puts + [("put", 0, 0), barred]))
        self.assertEqual((error.what, error.limit), ("pieces", 60))

    def test_wrong_parameters(self):
        check_parameters(
            self, sandwich,
            ("store", SHOP, InvalidStore, NO_STORES), ("history", [("put", 0, 1)], InvalidHistory, wrong_histories()),
        )


if __name__ == "__main__":
    unittest.main()
