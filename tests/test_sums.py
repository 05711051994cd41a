"""The greatest weighted sums of boards that can come: promise [63]."""

import random
import unittest
from itertools import combinations

from tests.helpers import (
    NO_STORES, all_small_stores, check_parameters, come_from, same, some_stores, wrong_weights,
)
from twoabove.boards import is_board
from twoabove.errors import InvalidStore, InvalidWeights
from twoabove.levels import can_come
from twoabove.stores import Store, named
from twoabove.sums import greatest, greatest_board

SHOP = Store(3, [[0, 1], [1, 2]], [])


def some_weights(shelves, many, seed):
    """So many weights, and those of 0 alone, above 0 alone, below 0 alone."""
    dice = random.Random(seed)
    rolls = [[dice.randint(-3, 2) for _ in range(shelves)] for _ in range(many)]
    return rolls + [[0] * shelves, [1] * shelves, [-1] * shelves, [1] + [-1] * (shelves - 1)]


def weighed(weights, board):
    return sum(weight * pieces for weight, pieces in zip(weights, board))


def heavy_joins(store, weights):
    """The joins of delivery kinds that have a weight above 0."""
    kinds = store.deliveries()
    joins = [set().union(*pick) for many in range(1, len(kinds) + 1) for pick in combinations(kinds, many)]
    return [join for join in joins if sum(weights[shelf] for shelf in join) > 0]


class GreatestTest(unittest.TestCase):
    def test_the_examples(self):
        told = [
            greatest(SHOP, [1, -1, 1]), greatest(SHOP, [1, -2, 1]), greatest(SHOP, [-1, 0, -2]),
            greatest_board(SHOP, [1, -1, 1]), greatest_board(Store(2, [[0]], []), [-1, 5]),
            greatest(Store(2, [[0, 1]], []), [3, -3]),
        ]
        self.assertEqual(told, [None, 2, 0, None, [0, 0], 3])

    def test_none_exactly_if_a_join_is_heavy(self):
        for store in all_small_stores() + some_stores(3, 40, 120) + some_stores(6, 20, 121):
            for weights in some_weights(store.shelves, 10, 122):
                heavy = heavy_joins(store, weights)
                for told in (greatest(store, weights), greatest_board(store, weights)):
                    self.assertIs(told is None, bool(heavy))
                if heavy:
                    # As high as one likes, the heavy join alone can come: its sum grows without end.
                    board = [60 if shelf in heavy[0] else 0 for shelf in range(store.shelves)]
                    self.assertIs(can_come(store, board), True)
                    self.assertGreaterEqual(weighed(weights, board), 60)

    def test_no_board_that_can_come_has_a_greater_sum(self):
        for store in all_small_stores()[::3] + some_stores(3, 40, 123) + some_stores(4, 8, 124):
            found = come_from(store, [0] * store.shelves, 4 if store.shelves < 4 else 3)
            for weights in some_weights(store.shelves, 10, 125):
                told = greatest(store, weights)
                if told is not None:
                    self.assertEqual(told, max(weighed(weights, board) for board in found))
                    self.assertIs(type(told), int)

    def test_the_told_board_can_come_and_has_the_sum(self):
        for store in all_small_stores() + some_stores(3, 40, 126) + some_stores(8, 10, 127):
            for weights in some_weights(store.shelves, 10, 128):
                board = greatest_board(store, weights)
                if board is not None:
                    self.assertIs(type(board), list)
                    self.assertIs(is_board(store, board), True)
                    self.assertIs(can_come(store, board), True)
                    self.assertEqual(weighed(weights, board), greatest(store, weights))
                    self.assertTrue(same(greatest_board(store, tuple(weights)), board))
                    self.assertEqual(greatest(store, tuple(weights)), weighed(weights, board))

    def test_unnamed_shelves_add_nothing(self):
        for store in all_small_stores() + some_stores(4, 40, 129):
            for weights in some_weights(store.shelves, 6, 130):
                lot = named(store)
                plain = [weight if shelf in lot else 0 for shelf, weight in enumerate(weights)]
                self.assertEqual(greatest(store, weights), greatest(store, plain))
        self.assertEqual(greatest(Store(3, [[0]], []), [0, 7, 9]), 0)
        self.assertEqual(greatest(Store(3, [], [[0]]), [5, 7, 9]), 0)

    def test_sales_do_not_count(self):
        # A sale would let 0 alone stand: but deliveries come alone here.
        self.assertEqual(greatest(Store(2, [[0, 1]], [[1]]), [3, -3]), 3)
        self.assertEqual(greatest_board(Store(2, [[0, 1]], [[1]]), [3, -3]), [1, 0])
        self.assertIs(greatest(Store(2, [[0, 1]], [[1]]), [3, -2]), None)

    def test_weights_of_nothing(self):
        self.assertEqual(greatest(SHOP, [0, 0, 0]), 0)
        self.assertEqual(greatest(SHOP, [0, -1, 1]), 1)
        self.assertIs(greatest(SHOP, [0, 0, 1]), None)

    def test_wrong_parameters(self):
        for function in (greatest, greatest_board):
            check_parameters(
                self, function,
                ("store", SHOP, InvalidStore, NO_STORES), ("weights", (1, -2, 1), InvalidWeights, wrong_weights(3)),
            )

    def test_told_is_new(self):
        greatest_board(SHOP, [1, -2, 1]).append(1)
        self.assertEqual(weighed([1, -2, 1], greatest_board(SHOP, [1, -2, 1])), 2)


if __name__ == "__main__":
    unittest.main()
