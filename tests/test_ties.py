"""Deliveries by a written order, and never above: promises [54] and [55]."""

import random
import unittest
from itertools import permutations, product

from tests.helpers import (
    NO_STORES, NO_TUPLES, all_boards, all_lots, all_small_stores, changed_at, check_judge, check_parameters, raised,
    same, searched, some_stores, wrong_boards, wrong_lots, wrong_orders, wrong_positions, wrong_shelves,
)
from twoabove.errors import (
    InvalidBoard, InvalidOrder, InvalidPosition, InvalidShelf, InvalidStore, InvalidWished, TooMany,
)
from twoabove.looks import givers
from twoabove.stores import Store
from twoabove.ties import (
    above_lot, are_givers_by, comes_by, givers_by, is_above_lot, never_above, put_by, way_by,
)

SHOP = Store(3, [[0, 1], [1, 2]], [])
STORES = all_small_stores()[::7] + some_stores(3, 20, 100)


def second_put_by(store, order, board, position):
    """The board behind a delivery by the order: of those who hold least the first."""
    kind = store.deliveries()[position]
    return changed_at(board, min(kind, key=lambda shelf: (board[shelf], order.index(shelf))), 1)


def come_by(store, order, board, most):
    """All boards that come from the board by the order, none higher than that."""
    many = range(len(store.deliveries()))
    return searched(board, lambda one: [
        behind for behind in (second_put_by(store, order, one, position) for position in many) if max(behind) <= most
    ])


def small_cases():
    """Small stores with an order and two boards, and whether a search by the order comes to the second."""
    for store in STORES:
        for order in list(permutations(range(store.shelves)))[::2 if store.shelves == 3 else 1]:
            for board in all_boards(store.shelves, 1):
                found = come_by(store, order, board, 3)
                for wished in all_boards(store.shelves, 3)[::2]:
                    yield store, order, board, wished, tuple(wished) in found


def second_are_givers_by(store, order, board, wished, pairs):
    """Whether a list of pairs is givers by the order, from the words of the promises."""
    gaining = [shelf for shelf in range(store.shelves) if wished[shelf] > board[shelf]]
    if [shelf for shelf, _ in pairs] != gaining or any(one < other for one, other in zip(wished, board)):
        return False
    for shelf, position in pairs:
        for one in store.deliveries()[position]:
            if wished[one] < wished[shelf] - (order.index(one) > order.index(shelf)):
                return False
    return all(shelf in store.deliveries()[position] for shelf, position in pairs)


def second_is_self_given(store, order, lot):
    """Whether each shelf of the lot has a kind all of whose shelves ahead of it lie in the lot."""
    def given(shelf):
        ahead = set(order[:order.index(shelf)])
        return any(shelf in kind and set(kind) & ahead <= set(lot) for kind in store.deliveries())
    return all(given(shelf) for shelf in lot)


class PutTest(unittest.TestCase):
    def test_the_examples(self):
        order, nothing = [0, 1, 2], [0, 0, 0]
        told = [
            put_by(SHOP, order, nothing, 1), put_by(SHOP, [2, 1, 0], nothing, 1),
            comes_by(SHOP, order, nothing, [0, 1, 1]), comes_by(SHOP, order, nothing, [0, 0, 1]),
            givers_by(SHOP, order, nothing, [0, 1, 1]), way_by(SHOP, order, nothing, [0, 1, 1]),
        ]
        self.assertEqual(told, [[0, 1, 0], [0, 0, 1], True, False, [(1, 1), (2, 1)], [1, 1]])
        told = [
            never_above(SHOP, order, 2, 1), never_above(SHOP, order, 1, 0), above_lot(SHOP, order, 1, 0),
            is_above_lot(SHOP, order, 1, 0, (1,)), is_above_lot(SHOP, order, 1, 0, [2]),
        ]
        self.assertEqual(told, [True, False, [1, 2], True, False])

    def test_orders_of_all_sorts(self):
        for store in STORES + some_stores(4, 10, 101):
            for order in permutations(range(store.shelves)):
                for board in all_boards(store.shelves, 1) + [[2, 58, 59, 0][:store.shelves]]:
                    for position in range(len(store.deliveries())):
                        told = put_by(store, list(order), board, position)
                        self.assertEqual(told, list(second_put_by(store, order, board, position)))
                        self.assertTrue(same(put_by(store, order, tuple(board), position), told))

    def test_a_shelf_at_sixty(self):
        self.assertEqual(put_by(SHOP, [1, 0, 2], [59, 60, 60], 0), [60, 60, 60])
        for order in permutations(range(3)):
            error = raised(self, TooMany, lambda: put_by(SHOP, order, [60, 60, 0], 0))
            self.assertEqual((error.what, error.limit), ("pieces", 60))

    def test_what_is_passed_stays(self):
        order, board = [2, 1, 0], [0, 0, 0]
        put_by(SHOP, order, board, 0).append(4)
        self.assertEqual((order, board), ([2, 1, 0], [0, 0, 0]))

    def test_wrong_parameters(self):
        check_parameters(
            self, put_by,
            ("store", SHOP, InvalidStore, NO_STORES), ("order", (2, 0, 1), InvalidOrder, wrong_orders(3)),
            ("board", [1, 0, 60], InvalidBoard, wrong_boards(3)), ("position", 0, InvalidPosition, wrong_positions(2)),
        )


class ComesTest(unittest.TestCase):
    def test_exactly_if_a_search_comes_to_it(self):
        for store, order, board, wished, found in small_cases():
            pairs = givers_by(store, order, board, wished)
            self.assertIs(comes_by(store, order, board, wished), found)
            self.assertIs(pairs is not None, found)
            if found:
                self.assertTrue(second_are_givers_by(store, order, board, wished, pairs))
                self.assertIs(are_givers_by(store, order, board, wished, pairs), True)
                self.assertTrue(same(givers_by(store, list(order), tuple(board), tuple(wished)), pairs))
                self.assertTrue(type(pairs) is list and all(type(pair) is tuple for pair in pairs))

    def test_ways_by_the_order(self):
        for store, order, board, wished, found in small_cases():
            told = way_by(store, order, board, wished)
            if not found:
                self.assertIs(told, None)
                continue
            here = board
            for position in told:
                here = put_by(store, order, here, position)
            self.assertEqual(here, wished)
            self.assertIs(type(told), list)
            self.assertTrue(same(way_by(store, list(order), tuple(board), tuple(wished)), told))

    def test_long_ways(self):
        dice = random.Random(102)
        for store in some_stores(6, 40, 103):
            order = dice.sample(range(6), 6)
            wished = (0,) * 6
            for _ in range(190):
                positions = range(len(store.deliveries()))
                behind = [second_put_by(store, order, wished, position) for position in positions]
                wished = dice.choice([one for one in behind if max(one) <= 60] or [wished])
            here = [0] * 6
            for position in way_by(store, order, here, wished):
                here = put_by(store, order, here, position)
            self.assertEqual(here, list(wished))

    def test_two_hundred_deeds(self):
        store, order = Store(4, [[0, 1, 2, 3]], []), (3, 1, 0, 2)
        self.assertEqual(way_by(store, order, [0] * 4, [50] * 4), [0] * 200)
        self.assertEqual(way_by(store, order, [1, 1, 1, 1], [51, 51, 51, 51]), [0] * 200)
        for wished in ([50, 50, 50, 51], [60] * 4):
            error = raised(self, TooMany, lambda: way_by(store, order, [0] * 4, wished))
            self.assertEqual((error.what, error.limit), ("deeds", 200))
        for wished in ([51, 50, 50, 50], [60, 60, 60, 58], [50, 51, 50, 50]):
            self.assertIs(way_by(store, order, [0] * 4, wished), None)
        self.assertIs(way_by(store, order, [60, 0, 0, 0], [59, 60, 60, 60]), None)
        self.assertEqual(way_by(store, order, [60] * 4, [60] * 4), [])

    def test_the_order_tells(self):
        for order, good in (((0, 1, 2), True), ((1, 0, 2), False), ((0, 2, 1), True), ((2, 1, 0), False)):
            self.assertIs(comes_by(Store(3, [[0, 1]], []), order, [0, 0, 0], [1, 0, 0]), good)

    def test_wrong_parameters(self):
        parameters = [
            ("store", SHOP, InvalidStore, NO_STORES), ("order", (2, 0, 1), InvalidOrder, wrong_orders(3)),
            ("board", [1, 0, 0], InvalidBoard, wrong_boards(3)), ("wished", (1, 0, 1), InvalidWished, wrong_boards(3)),
        ]
        for function in (comes_by, givers_by, way_by):
            check_parameters(self, function, *parameters)
        check_parameters(self, are_givers_by, *parameters, ("value", [(2, 1)], None, ()))


class GiversTest(unittest.TestCase):
    def test_the_judge_on_all_lists_of_pairs(self):
        for store in all_small_stores()[::9] + some_stores(3, 4, 104):
            pairs = list(product(range(store.shelves), range(len(store.deliveries()))))
            lists = [list(row) for many in range(store.shelves + 1) for row in product(pairs, repeat=many)]
            for order in list(permutations(range(store.shelves)))[::-2]:
                for wished in all_boards(store.shelves, 2):
                    board = [pieces // 2 for pieces in wished]
                    for value in lists[::1 + len(lists) // 60]:
                        good = second_are_givers_by(store, order, board, wished, value)
                        self.assertIs(are_givers_by(store, order, board, wished, value), good)

    def test_one_changed(self):
        board, wished, order = [0, 0, 0], [2, 2, 1], [0, 1, 2]
        good = [(0, 0), (1, 0), (2, 1)]
        self.assertEqual(givers_by(SHOP, order, board, wished), good)
        self.assertEqual(givers(SHOP, board, wished), good)
        self.assertIs(are_givers_by(SHOP, order, board, wished, [(0, 0), (1, 1), (2, 1)]), True)
        # By this order 2 is ahead of 1, and holds less in the end: the kind 1 would not give to 1.
        self.assertIs(are_givers_by(SHOP, [0, 2, 1], board, wished, [(0, 0), (1, 1), (2, 1)]), False)
        self.assertIs(are_givers_by(SHOP, [0, 2, 1], board, wished, tuple(good)), True)
        wrongs = [
            good[1:], good[:2], good + good[2:], good[::-1], good[:1] + good, [(0, 1), (1, 0), (2, 1)],
            [(0, 0), (1, 0), (2, 0)], [(0, 0), (1, 2), (2, 1)], [(0, 0), [1, 0], (2, 1)], [(0, False), (1, 0), (2, 1)],
            [(0, 0), (True, 0), (2, 1)], [(0, 0), (1, 0), (2, True)], [(0, 0), (1, 0, 0), (2, 1)], (0, 0),
        ]
        for wrong in wrongs:
            self.assertIs(are_givers_by(SHOP, order, board, wished, wrong), False, wrong)
        for wrong in NO_TUPLES:
            self.assertIs(are_givers_by(SHOP, order, board, wished, good[:2] + [wrong]), False)

    def test_any_value(self):
        order = (1, 0, 2)
        check_judge(self, lambda value: are_givers_by(SHOP, order, [0, 1, 0], [1, 1, 0], value), [(0, 0)], ((0, 0),))
        check_judge(self, lambda value: are_givers_by(SHOP, order, [0, 0, 0], [0, 0, 0], value), [], ())
        check_judge(self, lambda value: are_givers_by(SHOP, order, [0, 0, 0], [1, 0, 0], value))


class NeverAboveTest(unittest.TestCase):
    def cases(self):
        for store in all_small_stores()[::7] + some_stores(3, 20, 105) + some_stores(4, 6, 106):
            for order in list(permutations(range(store.shelves)))[::1 if store.shelves < 4 else 5]:
                for shelf, other in permutations(range(store.shelves), 2):
                    yield store, order, shelf, other

    def test_exactly_if_no_board_of_a_search_shows_it(self):
        found = {}
        for store, order, shelf, other in self.cases():
            key = (store.shelves, str(store.deliveries()), order)
            if key not in found:
                found[key] = come_by(store, order, [0] * store.shelves, 3)
            stands = any(board[shelf] > board[other] for board in found[key])
            self.assertIs(never_above(store, order, shelf, other), not stands)
            self.assertIs(never_above(store, list(order), shelf, other), not stands)

    def test_the_greatest_self_given_lot(self):
        for store, order, shelf, other in self.cases():
            lots = [lot for lot in all_lots(store.shelves) if other not in lot]
            whole = sorted({one for lot in lots if second_is_self_given(store, order, lot) for one in lot})
            told = above_lot(store, order, shelf, other)
            self.assertEqual(told, whole if shelf in whole else None)
            if told is not None:
                self.assertTrue(second_is_self_given(store, order, told))
                self.assertIs(is_above_lot(store, order, shelf, other, told), True)
                self.assertIs(type(told), list)

    def test_the_judge_on_all_lots(self):
        for store, order, shelf, other in self.cases():
            for lot in all_lots(store.shelves):
                good = shelf in lot and other not in lot and second_is_self_given(store, order, lot)
                self.assertIs(is_above_lot(store, order, shelf, other, lot), good)
                self.assertIs(is_above_lot(store, order, shelf, other, tuple(lot[::-1])), good)

    def test_lots_in_any_sequence(self):
        store = Store(4, [[1, 2], [2], [3]], [])
        for lot in permutations([1, 2, 3]):
            self.assertIs(is_above_lot(store, [2, 1, 0, 3], 1, 0, lot), True)
        for lot in ([1], [True, 2], [1, 2, 2], [1, 2, 0], [2, 3], [], [1, 2, 4], [1, 2, None], {1: 1, 2: 2}):
            self.assertIs(is_above_lot(store, [2, 1, 0, 3], 1, 0, lot), False)

    def test_any_value(self):
        check_judge(self, lambda value: is_above_lot(SHOP, [0, 1, 2], 1, 0, value), [1], (1,), [2, 1])
        for wrong in wrong_lots(3):
            self.assertIs(is_above_lot(SHOP, [0, 1, 2], 0, 1, wrong), False)

    def test_wrong_parameters(self):
        parameters = [
            ("store", SHOP, InvalidStore, NO_STORES), ("order", (0, 1, 2), InvalidOrder, wrong_orders(3)),
            ("shelf", 1, InvalidShelf, wrong_shelves(3)), ("other", 0, InvalidShelf, wrong_shelves(3, 1)),
        ]
        for function in (never_above, above_lot):
            check_parameters(self, function, *parameters)
        check_parameters(self, is_above_lot, *parameters, ("value", [2, 1], None, ()))

    def test_told_is_new(self):
        above_lot(SHOP, [0, 1, 2], 1, 0).append(0)
        self.assertEqual(above_lot(SHOP, [0, 1, 2], 1, 0), [1, 2])


if __name__ == "__main__":
    unittest.main()
