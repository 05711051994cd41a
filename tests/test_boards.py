"""Boards: promises [6], [14] and [15]."""

import unittest
from itertools import product

from tests.helpers import (
    NO_COUNTS, NO_LISTS, NO_STORES, all_kinds, check_judge, check_parameters, raised, wrong_boards, wrong_kinds,
    wrong_lots,
)
from twoabove.boards import (
    board_of, falling_lots, height, is_board, least_of, level_lot, most_of, total,
)
from twoabove.errors import InvalidBoard, InvalidKind, InvalidLevel, InvalidLots, InvalidStore
from twoabove.stores import Store

SHOP = Store(3, [[0, 1], [1, 2]], [[2]])
SMALL_BOARDS = [list(board) for board in product(range(4), repeat=3)]


def wrong_lot_rows(shelves):
    """No lists of at most 60 lots, each within the one ahead."""
    inside = tuple([[0], wrong] for wrong in wrong_lots(shelves))
    return NO_LISTS + inside + (
        [0], [[0], [1]], [[0], [0, 1]], [[], [0]], [[0, 1], [0], [1]], [[0, 1], [], [0]], [[0]] * 61, [[]] * 61,
        ([0, 1], (1,), (1, 0)), [[[0]]],
    )


class BoardTest(unittest.TestCase):
    def test_the_example(self):
        shop = Store(3, [[1, 2], (1, 0), [2, 1]], [[2]])
        told = [
            is_board(shop, [0, 61, 0]), total(shop, [3, 1, 0]), height(shop, [3, 1, 0]),
            level_lot(shop, [3, 1, 0], 1), falling_lots(shop, [3, 1, 0]), board_of(shop, [[1, 0], [0], [0]]),
            least_of(shop, [3, 1, 1], [0, 1, 2]), most_of(shop, [3, 1, 1], [2, 1]), most_of(shop, [3, 0, 0], [1, 2]),
        ]
        self.assertEqual(told, [False, 4, 3, [0, 1], [[0, 1], [0], [0]], [3, 1, 0], [1, 2], [1, 2], []])

    def test_is_board(self):
        for board in ([0, 0, 0], (0, 60, 7), [60, 60, 60]):
            self.assertIs(is_board(SHOP, board), True)
            self.assertIs(is_board(value=board, store=SHOP), True)
        for wrong in wrong_boards(3):
            self.assertIs(is_board(SHOP, wrong), False, repr(wrong))
        check_judge(self, lambda value: is_board(SHOP, value), [0, 0, 0], (60, 0, 1))
        self.assertIs(is_board(Store(8, [], []), [0] * 8), True)
        check_parameters(self, is_board, ("store", SHOP, InvalidStore, NO_STORES), ("value", [0, 1, 2], None, ()))

    def test_total_and_height(self):
        for board in SMALL_BOARDS + [[60, 60, 60], [60, 0, 0]]:
            self.assertEqual(total(SHOP, tuple(board)), board[0] + board[1] + board[2])
            self.assertEqual(height(SHOP, tuple(board)), sorted(board)[-1])

    def test_wrong_parameters(self):
        for function in (total, height, falling_lots):
            check_parameters(
                self, function,
                ("store", SHOP, InvalidStore, NO_STORES), ("board", (0, 60, 1), InvalidBoard, wrong_boards(3)),
            )


class LevelTest(unittest.TestCase):
    def test_who_stands_at_a_level(self):
        for board in SMALL_BOARDS + [[60, 59, 0]]:
            for level in (0, 1, 2, 3, 4, 59, 60, 61, 10 ** 29):
                told = [shelf for shelf in range(3) if board[shelf] >= level]
                self.assertEqual(level_lot(SHOP, tuple(board), level), told)
            self.assertEqual(level_lot(SHOP, board, 0), [0, 1, 2])

    def test_wrong_levels(self):
        check_parameters(
            self, level_lot,
            ("store", SHOP, InvalidStore, NO_STORES), ("board", [2, 0, 1], InvalidBoard, wrong_boards(3)),
            ("level", 2, InvalidLevel, NO_COUNTS),
        )

    def test_falling_lots_and_their_board(self):
        for board in SMALL_BOARDS + [[60, 59, 0], [0, 0, 60]]:
            lots = falling_lots(SHOP, board)
            self.assertEqual(lots, [[s for s in range(3) if board[s] > level] for level in range(max(board))])
            self.assertEqual(board_of(SHOP, lots), board)
            self.assertEqual(board_of(SHOP, tuple(tuple(lot[::-1]) for lot in lots)), board)

    def test_empty_lots_at_the_end(self):
        self.assertEqual(board_of(SHOP, []), [0, 0, 0])
        self.assertEqual(board_of(SHOP, [[], (), []]), [0, 0, 0])
        self.assertEqual(board_of(SHOP, [[2, 0], [2], [], []]), [1, 0, 2])

    def test_sixty_lots(self):
        self.assertEqual(board_of(SHOP, [[0]] * 60), [60, 0, 0])
        self.assertEqual(board_of(SHOP, [[0, 1]] * 20 + [[1]] * 39 + [[]]), [20, 59, 0])

    def test_wrong_lots(self):
        check_parameters(
            self, board_of,
            ("store", SHOP, InvalidStore, NO_STORES), ("lots", [[1, 0], (1,)], InvalidLots, wrong_lot_rows(3)),
        )

    def test_told_is_new(self):
        board = [2, 1, 0]
        lots = falling_lots(SHOP, board)
        lots[0].append(7)
        level_lot(SHOP, board, 0).clear()
        told = [[0, 1], [0]]
        board_of(SHOP, told)[0] = 9
        self.assertEqual((board, told, falling_lots(SHOP, board)), ([2, 1, 0], [[0, 1], [0]], [[0, 1], [0]]))
        self.assertIs(type(falling_lots(SHOP, (2, 1, 0))[0]), list)


class LeastAndMostTest(unittest.TestCase):
    def test_of_all_kinds(self):
        for board in SMALL_BOARDS:
            for kind in all_kinds(3):
                pieces = [board[shelf] for shelf in kind]
                least = [shelf for shelf in kind if board[shelf] == min(pieces)]
                most = [shelf for shelf in kind if board[shelf] == max(pieces) > 0]
                self.assertEqual(least_of(SHOP, board, kind[::-1]), least)
                self.assertEqual(most_of(SHOP, tuple(board), tuple(kind[::-1])), most)

    def test_kinds_that_are_none_of_the_store(self):
        bare = Store(3, [], [])
        self.assertEqual(least_of(bare, [3, 1, 1], (2, 0, 1)), [1, 2])
        self.assertEqual(most_of(bare, [3, 3, 1], (2, 1, 0)), [0, 1])

    def test_all_of_them_hold_nothing(self):
        self.assertEqual(most_of(SHOP, [0, 5, 0], [2, 0]), [])
        self.assertEqual(least_of(SHOP, [0, 5, 0], [2, 0]), [0, 2])
        self.assertEqual(most_of(SHOP, [0, 0, 0], [1]), [])

    def test_wrong_parameters(self):
        for function in (least_of, most_of):
            check_parameters(
                self, function,
                ("store", SHOP, InvalidStore, NO_STORES), ("board", [2, 0, 1], InvalidBoard, wrong_boards(3)),
                ("kind", (2, 0), InvalidKind, wrong_kinds(3)),
            )
            self.assertEqual(raised(self, InvalidBoard, lambda: function(SHOP, [0, 0], None)).value, [0, 0])


if __name__ == "__main__":
    unittest.main()
