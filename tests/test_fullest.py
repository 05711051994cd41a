"""The other custom, to the fullest: promises [81] to [83] and [87]."""

import random
import unittest
from itertools import permutations, product

from tests.helpers import (
    NO_LISTS, NO_STORES, NO_TUPLES, all_boards, all_lots, all_small_stores, changed_at, check_judge, check_parameters,
    raised, same, searched, some_stores, wrong_boards, wrong_positions,
)
from twoabove.errors import InvalidBoard, InvalidPosition, InvalidStore, InvalidWished, TooMany
from twoabove.fullest import comes_fullest, fullest_way, is_peeling, is_stuck, most_shelves, peeling, stuck
from twoabove.stores import Store, with_sale

THREE = Store(3, [[0, 1], [1, 2]], [])
TWO = Store(2, [[0, 1]], [])


def second_most(kind, board):
    return [shelf for shelf in kind if all(board[shelf] >= board[one] for one in kind)]


def come_fullest(store, most):
    """All boards that deliveries to the fullest lead to from the empty board, none higher than that."""
    return searched([0] * store.shelves, lambda board: [
        changed_at(board, shelf, 1) for kind in store.deliveries() for shelf in second_most(kind, board)
        if board[shelf] < most
    ])


def second_is_peeling(store, wished, value):
    """Whether a list of pairs is a peeling, from the words of the promise."""
    row = [shelf for shelf, _ in value]
    kinds = store.deliveries()
    return sorted(row) == [shelf for shelf, pieces in enumerate(wished) if pieces] and all(
        shelf in kinds[position] and not set(row[:at]) & set(kinds[position])
        for at, (shelf, position) in enumerate(value)
    )


def second_is_stuck(store, wished, value):
    """Whether a lot is a stuck one, from the words of the promise."""
    return bool(value) and all(wished[shelf] for shelf in value) and all(
        not set(kind) & set(value) or len(set(kind) & set(value)) >= 2 for kind in store.deliveries()
    )


def small_cases():
    """Small stores with a board each, and whether it comes by a search."""
    for store in all_small_stores()[::3] + some_stores(3, 60, 140) + some_stores(4, 20, 141):
        most = 4 if store.shelves < 4 else 2
        found = come_fullest(store, most)
        for board in all_boards(store.shelves, most):
            yield store, board, tuple(board) in found


class MostTest(unittest.TestCase):
    def test_the_examples(self):
        told = [
            most_shelves(THREE, [2, 2, 0], 0), most_shelves(THREE, [2, 2, 0], 1), most_shelves(TWO, [0, 0], 0),
            comes_fullest(THREE, [7, 0, 4]), comes_fullest(THREE, [7, 4, 0]), comes_fullest(TWO, [1, 1]),
            peeling(TWO, [3, 0]), stuck(TWO, [1, 1]), fullest_way(TWO, [0, 2]),
        ]
        self.assertEqual(told, [[0, 1], [1], [0, 1], True, True, False, [(0, 0)], [0, 1], [(0, 1), (0, 1)]])
        told = [
            is_peeling(THREE, [7, 4, 0], [(0, 0), (1, 1)]), is_peeling(THREE, [7, 4, 0], [(1, 1), (0, 0)]),
            is_stuck(TWO, [1, 1], [1, 0]), is_stuck(TWO, [1, 1], [0]), peeling(THREE, [0, 0, 0]),
            stuck(Store(2, [[0]], []), [0, 1]),
        ]
        self.assertEqual(told, [True, False, True, False, [], [1]])

    def test_who_holds_most(self):
        dice = random.Random(142)
        for store in all_small_stores()[::2] + some_stores(6, 60, 143):
            for top in (0, 1, 3, 60):
                board = [dice.randint(0, top) for _ in range(store.shelves)]
                for position, kind in enumerate(store.deliveries()):
                    told = most_shelves(store, board, position)
                    self.assertEqual(told, second_most(kind, board))
                    self.assertTrue(same(most_shelves(store, tuple(board), position), told))

    def test_ties_nothing_and_sixty(self):
        store = Store(4, [[1, 2, 3]], [[0]])
        self.assertEqual(most_shelves(store, [9, 0, 0, 0], 0), [1, 2, 3])
        self.assertEqual(most_shelves(store, [9, 2, 0, 2], 0), [1, 3])
        self.assertEqual(most_shelves(store, [0, 60, 60, 60], 0), [1, 2, 3])
        self.assertEqual(most_shelves(store, [60, 0, 0, 1], 0), [3])

    def test_wrong_parameters(self):
        check_parameters(
            self, most_shelves,
            ("store", THREE, InvalidStore, NO_STORES), ("board", (1, 0, 0), InvalidBoard, wrong_boards(3)),
            ("position", 1, InvalidPosition, wrong_positions(2)),
        )
        bare = Store(2, [], [[0, 1]])
        self.assertEqual(raised(self, InvalidPosition, lambda: most_shelves(bare, [0, 0], 0)).value, 0)


class FullestTest(unittest.TestCase):
    def test_the_example_of_the_document(self):
        self.assertEqual([comes_fullest(THREE, [7, 0, 4]), comes_fullest(THREE, [7, 4, 0])], [True, True])
        one = Store(3, [[0, 1]], [])
        self.assertEqual([comes_fullest(one, [7, 0, 0]), comes_fullest(one, [1, 1, 0])], [True, False])
        self.assertEqual(stuck(one, [1, 1, 0]), [0, 1])

    def test_exactly_if_a_search_comes_to_it(self):
        for store, board, found in small_cases():
            self.assertIs(comes_fullest(store, board), found, (store.deliveries(), board))
            self.assertIs(comes_fullest(store, tuple(board)), found)

    def test_a_peeling_or_a_stuck_lot_never_both(self):
        for store, board, found in small_cases():
            row, lot = peeling(store, board), stuck(store, board)
            self.assertIs(row is not None, found)
            self.assertIs(lot is None, found)
            if found:
                self.assertTrue(second_is_peeling(store, board, row))
                self.assertTrue(type(row) is list and all(type(pair) is tuple for pair in row))
                self.assertIs(is_peeling(store, board, row), True)
            else:
                self.assertTrue(second_is_stuck(store, board, lot))
                self.assertTrue(type(lot) is list and lot == sorted(lot))
                self.assertIs(is_stuck(store, board, lot), True)

    def test_how_much_each_holds_does_not_matter(self):
        dice = random.Random(144)
        for store in some_stores(6, 60, 145):
            for _ in range(10):
                filled = [dice.randint(0, 1) for _ in range(6)]
                high = [one * dice.choice((1, 2, 59, 60)) for one in filled]
                self.assertIs(comes_fullest(store, high), comes_fullest(store, filled))
                self.assertEqual(peeling(store, high) is None, stuck(store, filled) is not None)

    def test_the_empty_board(self):
        for store in (THREE, Store(3, [], [[0, 1]])):
            self.assertIs(comes_fullest(store, [0, 0, 0]), True)
            self.assertEqual(peeling(store, (0, 0, 0)), [])
            self.assertIs(stuck(store, [0, 0, 0]), None)
            self.assertEqual(fullest_way(store, [0, 0, 0]), [])
            self.assertIs(is_peeling(store, [0, 0, 0], ()), True)
            self.assertIs(is_stuck(store, [0, 0, 0], []), False)

    def test_sale_kinds_do_not_count(self):
        for store, board, found in list(small_cases())[::5]:
            bare = Store(store.shelves, store.deliveries(), [])
            self.assertIs(comes_fullest(bare, board), found)
            self.assertIs(comes_fullest(with_sale(bare, [0, 1]), board), found)

    def test_wrong_parameters(self):
        parameters = [("store", THREE, InvalidStore, NO_STORES), ("wished", (7, 4, 0), InvalidWished, wrong_boards(3))]
        for function in (comes_fullest, peeling, stuck, fullest_way):
            check_parameters(self, function, *parameters)
        check_parameters(self, is_peeling, *parameters, ("value", [(0, 0), (1, 1)], None, ()))
        check_parameters(self, is_stuck, *parameters, ("value", [0], None, ()))


class WayTest(unittest.TestCase):
    def check_played(self, store, wished, told):
        board = [0] * store.shelves
        for position, shelf in told:
            self.assertIn(shelf, second_most(store.deliveries()[position], board))
            self.assertIn(shelf, most_shelves(store, board, position))
            board[shelf] += 1
        self.assertEqual(board, list(wished))

    def test_played_by_the_other_custom(self):
        for store, board, found in small_cases():
            told = fullest_way(store, board)
            if not found:
                self.assertIs(told, None)
                continue
            self.assertTrue(type(told) is list and all(type(deed) is tuple for deed in told))
            self.check_played(store, board, told)
            self.assertTrue(same(fullest_way(store, tuple(board)), told))

    def test_high_boards(self):
        dice = random.Random(146)
        for store in some_stores(6, 80, 147):
            board = [dice.choice((0, 0, 1, 7, 60)) for _ in range(6)]
            if comes_fullest(store, board) and sum(board) <= 200:
                self.check_played(store, board, fullest_way(store, board))

    def test_two_hundred_deeds(self):
        store = Store(4, [[0, 1], [1, 2], [2, 3], [3]], [])
        for wished in ([60, 60, 60, 20], [50] * 4, [60, 60, 20, 60]):
            self.assertEqual(len(fullest_way(store, wished)), 200)
            self.check_played(store, wished, fullest_way(store, wished))
        for wished in ([60, 60, 60, 21], [60] * 4):
            error = raised(self, TooMany, lambda: fullest_way(store, wished))
            self.assertEqual((error.what, error.limit), ("deeds", 200))
            self.assertEqual(len(peeling(store, wished)), 4)
        stuck_one = Store(4, [[0, 1], [1, 2], [2, 3]], [])
        self.assertIs(fullest_way(stuck_one, [60] * 4), None)


class JudgesTest(unittest.TestCase):
    def test_on_all_small_peelings(self):
        for store in all_small_stores()[::7] + some_stores(3, 8, 148):
            pairs = list(product(range(store.shelves), range(len(store.deliveries()))))
            lists = [list(row) for many in range(store.shelves + 1) for row in product(pairs, repeat=many)]
            for board in all_boards(store.shelves, 1):
                for value in lists[::1 + len(lists) // 300]:
                    good = second_is_peeling(store, board, value)
                    self.assertIs(is_peeling(store, board, value), good)
                    self.assertIs(is_peeling(store, board, tuple(value)), good)

    def test_on_all_lots(self):
        for store in all_small_stores()[::5] + some_stores(4, 25, 149):
            for board in all_boards(store.shelves, 1):
                for lot in all_lots(store.shelves):
                    good = second_is_stuck(store, board, lot)
                    for value in (lot, lot[::-1], tuple(lot)):
                        self.assertIs(is_stuck(store, board, value), good)
                    self.assertIs(is_stuck(store, board, lot + lot[:1]), good and not lot)

    def test_a_peeling_with_something_changed(self):
        store, wished = Store(4, [[0, 1], [1, 2], [2, 3], [3]], []), [5, 1, 0, 60]
        good = [(0, 0), (1, 1), (3, 3)]
        self.assertTrue(second_is_peeling(store, wished, good))
        for value in (good, tuple(good), [(3, 3), (0, 0), (1, 1)], [(0, 0), (3, 2), (1, 1)]):
            self.assertIs(is_peeling(store, wished, value), True)
        wrongs = [
            good[1:], good[:2], good + good[2:], good[:2] + [(3, 3), (2, 2)], [(1, 1), (0, 0), (3, 3)],
            [(0, 0), (1, 0), (3, 3)], [(0, 1), (1, 1), (3, 3)], [(0, 0), (1, 1), (3, 4)], [(0, 0), (1, 1), (3, -1)],
            [(0, 0), (1, 1), [3, 3]], [(0, False), (1, 1), (3, 3)], [(False, 0), (1, 1), (3, 3)],
            [(0, 0), (True, 1), (3, 3)], [(0, 0), (1, True), (3, 3)], [(0, 0), (1, 1), (3, 3, 3)],
            [(0, 0), (1, 1), (3,)], [(0, 0), (1, 1), ()], [(0, 0), (1, 1), (3, None)], [(0, 0), (1, 1), ("3", 3)],
            [(0, 0), (1, 1), (3, [3])], [(0, 0), (1, 1), (4, 3)], {(0, 0): 1, (1, 1): 1, (3, 3): 1}, (0, 0), [0, 1, 3],
        ]
        for wrong in wrongs:
            self.assertIs(is_peeling(store, wished, wrong), False, wrong)
        for wrong in NO_TUPLES:
            self.assertIs(is_peeling(store, wished, good[:2] + [wrong]), False)

    def test_all_sequences_of_a_peeling(self):
        store, wished = Store(4, [[0, 1], [1, 2], [2, 3], [3]], []), [1, 1, 1, 1]
        for row in permutations([(0, 0), (1, 1), (2, 2), (3, 3)]):
            self.assertIs(is_peeling(store, wished, list(row)), second_is_peeling(store, wished, row))

    def test_a_stuck_lot_with_something_changed(self):
        store, wished = Store(5, [[0, 1], [1, 2], [0, 2, 3], [4]], []), [1, 1, 1, 0, 0]
        for value in ([0, 1, 2], (2, 0, 1)):
            self.assertIs(is_stuck(store, wished, value), True)
        for wrong in ([0, 1], [0], [], [0, 1, 2, 3], [0, 1, 2, 4], [0, 1, 2, 2], [0, True, 2], [False, 1, 2], [0, 1, 5],
                      [0, 1, -1], [0, 1, None], ["0", 1, 2], [[0], 1, 2], {0: 0, 1: 1, 2: 2}, {0, 1, 2}, "012"):
            self.assertIs(is_stuck(store, wished, wrong), False, wrong)
        self.assertIs(is_stuck(store, [1, 1, 0, 0, 0], [0, 1, 2]), False)
        self.assertIs(is_stuck(Store(2, [], [[0]]), [1, 1], [1]), True)

    def test_any_value(self):
        check_judge(self, lambda value: is_peeling(TWO, [3, 0], value), [(0, 0)], ((0, 0),))
        check_judge(self, lambda value: is_peeling(TWO, [0, 0], value), [], ())
        check_judge(self, lambda value: is_peeling(TWO, [1, 1], value))
        check_judge(self, lambda value: is_stuck(TWO, [1, 1], value), [0, 1], (1, 0))
        check_judge(self, lambda value: is_stuck(TWO, [1, 0], value))
        for wrong in NO_LISTS:
            self.assertIs(is_stuck(Store(2, [[0]], []), [0, 1], [wrong]), same(wrong, 1))

    def test_told_is_new(self):
        stuck(TWO, [1, 1]).append(7)
        self.assertEqual(stuck(TWO, [1, 1]), [0, 1])
        peeling(TWO, [3, 0]).append(7)
        self.assertEqual(peeling(TWO, [3, 0]), [(0, 0)])
        most_shelves(TWO, [0, 0], 0).append(7)
        self.assertEqual(most_shelves(TWO, [0, 0], 0), [0, 1])


if __name__ == "__main__":
    unittest.main()
