"""Boards that can come from the empty one, level by level, and their numbers: promises [61] and [62]."""

import random
import unittest

from tests.helpers import (
    NO_COUNTS, NO_STORES, all_boards, all_lots, all_small_stores, check_parameters, come_from, raised, same,
    some_stores, wrong_boards, wrong_lots,
)
from twoabove.errors import InvalidBoard, InvalidLot, InvalidNumber, InvalidStore, InvalidTotal, NotCome, TooMany
from twoabove.levels import boards_with, can_come, how_many, number_of, numbered, supported
from twoabove.stores import Store

SHOP = Store(3, [[0, 1], [1, 2]], [])
EIGHT = Store(8, [[shelf] for shelf in range(8)], [[0, 1]])
RING = Store(8, [[shelf, (shelf + 1) % 8] for shelf in range(8)], [])
WRONG_TOTALS = NO_COUNTS + (21, 22, 10 ** 29)


def second_can_come(store, board):
    """Whether what stands at each level is supported by what stands at the one below."""
    lots = [{shelf for shelf, pieces in enumerate(board) if pieces >= level} for level in range(max(board) + 1)]
    for lower, higher in zip(lots, lots[1:]):
        kinds = [set(kind) for kind in store.deliveries() if set(kind) <= lower]
        if not higher <= {shelf for kind in kinds for shelf in kind}:
            return False
    return True


def listed(store, most):
    """For each total up to that the sorted boards that a search finds."""
    found = come_from(store, [0] * store.shelves, most)
    return [sorted(list(board) for board in found if sum(board) == total) for total in range(most + 1)]


class ComeTest(unittest.TestCase):
    def test_the_examples(self):
        told = [
            supported(SHOP, [1, 0]), supported(SHOP, [0, 2]), can_come(SHOP, [2, 1, 0]), can_come(SHOP, [3, 1, 0]),
            how_many(SHOP, 2), boards_with(SHOP, 3), numbered(SHOP, 3, 1), number_of(SHOP, [1, 2, 0]),
        ]
        three = [[0, 1, 2], [0, 2, 1], [1, 1, 1], [1, 2, 0], [2, 1, 0]]
        self.assertEqual(told, [[0, 1], [], True, False, 3, three, [0, 2, 1], 3])

    def test_supported_lots(self):
        for store in all_small_stores() + some_stores(4, 60, 110):
            for lot in all_lots(store.shelves):
                kinds = [kind for kind in store.deliveries() if set(kind) <= set(lot)]
                told = supported(store, lot)
                self.assertEqual(told, sorted({shelf for kind in kinds for shelf in kind}))
                self.assertTrue(same(supported(store, tuple(lot[::-1])), told))

    def test_exactly_if_a_search_comes_to_it(self):
        for store in all_small_stores()[::3] + some_stores(3, 40, 111) + some_stores(4, 8, 112):
            most = 4 if store.shelves < 4 else 2
            found = come_from(store, [0] * store.shelves, most)
            for board in all_boards(store.shelves, most):
                self.assertIs(can_come(store, board), tuple(board) in found)
                self.assertIs(can_come(store, tuple(board)), tuple(board) in found)

    def test_level_by_level(self):
        dice = random.Random(113)
        for store in some_stores(5, 60, 114):
            for _ in range(30):
                middle = dice.randint(0, 57)
                board = [middle + dice.randint(0, 3) for _ in range(5)]
                self.assertIs(can_come(store, board), second_can_come(store, board))

    def test_wrong_parameters(self):
        for store in (SHOP, Store(3, [], [])):
            check_parameters(
                self, supported, ("store", store, InvalidStore, NO_STORES), ("lot", (1, 0), InvalidLot, wrong_lots(3)),
            )
        check_parameters(
            self, can_come,
            ("store", SHOP, InvalidStore, NO_STORES), ("board", (60, 60, 60), InvalidBoard, wrong_boards(3)),
        )


class NumbersTest(unittest.TestCase):
    def test_against_a_listing(self):
        for store in all_small_stores()[::5] + some_stores(3, 15, 115):
            for total, found in enumerate(listed(store, 6)):
                self.assertEqual(how_many(store, total), len(found))
                self.assertEqual(boards_with(store, total), found)
                for number, board in enumerate(found):
                    self.assertEqual(numbered(store, total, number), board)
                    self.assertEqual(number_of(store, board), number)
                    self.assertEqual(number_of(store, tuple(board)), number)

    def test_more_shelves(self):
        for store in some_stores(5, 6, 116):
            for total, found in enumerate(listed(store, 4)):
                self.assertEqual(how_many(store, total), len(found))
                for number in range(0, len(found), 1 + len(found) // 10):
                    self.assertEqual(numbered(store, total, number), found[number])
                    self.assertEqual(number_of(store, found[number]), number)

    def test_great_totals(self):
        self.assertEqual(how_many(EIGHT, 20), 888030)
        self.assertEqual(numbered(EIGHT, 20, 0), [0, 0, 0, 0, 0, 0, 0, 20])
        self.assertEqual(numbered(EIGHT, 20, 888029), [20, 0, 0, 0, 0, 0, 0, 0])
        self.assertEqual(number_of(EIGHT, [20, 0, 0, 0, 0, 0, 0, 0]), 888029)
        self.assertEqual(how_many(Store(8, [list(range(8))], []), 20), 70)
        for store in (EIGHT, RING):
            many = how_many(store, 20)
            numbers = (0, many // 3, many // 3 + 1, many - 1)
            boards = [numbered(store, 20, number) for number in numbers]
            self.assertEqual(boards, sorted(boards))
            for board, number in zip(boards, numbers):
                self.assertEqual(sum(board), 20)
                self.assertTrue(second_can_come(store, board))
                self.assertEqual(number_of(store, board), number)

    def test_at_both_ends_and_beyond(self):
        for store, total in ((SHOP, 3), (SHOP, 20), (EIGHT, 5), (Store(2, [], []), 0)):
            many = how_many(store, total)
            for number in (0, many - 1):
                self.assertEqual(number_of(store, numbered(store, total, number)), number)
            for number in NO_COUNTS + (many, many + 1, 10 ** 29):
                caught = raised(self, InvalidNumber, lambda: numbered(store, total, number))
                self.assertTrue(same(caught.value, number))

    def test_none_can_come(self):
        store = Store(2, [], [[0, 1]])
        self.assertEqual([how_many(store, total) for total in (0, 1, 20)], [1, 0, 0])
        self.assertEqual([boards_with(store, total) for total in (0, 1, 20)], [[[0, 0]], [], []])
        self.assertEqual(raised(self, InvalidNumber, lambda: numbered(store, 1, 0)).value, 0)
        self.assertEqual(vars(raised(self, NotCome, lambda: number_of(store, [0, 1]))), {})
        self.assertEqual(number_of(store, [0, 0]), 0)

    def test_two_hundred_boards(self):
        just = Store(6, [[0, 3, 4, 5], [1, 3], [2, 4], [3, 4, 5]], [])
        self.assertEqual(how_many(just, 10), 200)
        self.assertEqual(len(boards_with(just, 10)), 200)
        above = Store(4, [[0, 1], [0, 1, 2], [0, 1, 3], [0, 2], [1]], [])
        self.assertEqual(how_many(above, 17), 201)
        for store, total in ((above, 17), (EIGHT, 20), (EIGHT, 4)):
            error = raised(self, TooMany, lambda: boards_with(store, total))
            self.assertEqual((error.what, error.limit), ("boards", 200))

    def test_all_totals(self):
        for store in some_stores(4, 8, 117):
            for total in range(21):
                number = how_many(store, total)
                if number > 200:
                    raised(self, TooMany, lambda: boards_with(store, total))
                    continue
                told = boards_with(store, total)
                self.assertEqual(len(told), number)
                self.assertEqual(told, sorted(told))
                self.assertTrue(all(second_can_come(store, board) and sum(board) == total for board in told))

    def test_the_board_of_a_number(self):
        for wrong in wrong_boards(3) + ([7, 7, 7], (21, 0, 0), [60, 60, 60]):
            self.assertTrue(same(raised(self, InvalidBoard, lambda: number_of(SHOP, wrong)).value, wrong))
        raised(self, NotCome, lambda: number_of(SHOP, [20, 0, 0]))
        self.assertEqual(number_of(SHOP, [7, 7, 6]), boards_with(SHOP, 20).index([7, 7, 6]))

    def test_wrong_parameters(self):
        stores, totals = ("store", SHOP, InvalidStore, NO_STORES), ("total", 3, InvalidTotal, WRONG_TOTALS)
        check_parameters(self, how_many, stores, totals)
        check_parameters(self, boards_with, stores, totals)
        check_parameters(self, numbered, stores, totals, ("number", 4, InvalidNumber, NO_COUNTS + (5, 10 ** 29)))
        check_parameters(
            self, number_of, stores, ("board", (1, 2, 0), InvalidBoard, wrong_boards(3) + ([7, 7, 7], [21, 0, 0])),
        )

    def test_told_is_new(self):
        told = boards_with(SHOP, 3)
        told[0].append(1)
        told.append([])
        self.assertEqual(len(boards_with(SHOP, 3)), 5)
        self.assertEqual(boards_with(SHOP, 3)[0], [0, 1, 2])
        numbered(SHOP, 3, 0).append(9)
        self.assertEqual(numbered(SHOP, 3, 0), [0, 1, 2])


if __name__ == "__main__":
    unittest.main()
