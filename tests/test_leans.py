"""What a store lets, partings and lean stores: promises [64] and [65]."""

import unittest
from itertools import product

from tests.helpers import (
    ANY_VALUES, NO_STORES, NO_TUPLES, all_boards, all_kinds, all_small_stores, check_judge, check_parameters,
    come_from, raised, same, some_stores, wrong_boards,
)
from twoabove.errors import InvalidStore, UnlikeShelves
from twoabove.leans import is_parting, lean, lets_all, needless, parting
from twoabove.stores import Store, without_delivery

SHOP = Store(3, [[0, 1], [1, 2]], [])
FULL, BARE = Store(3, [[0, 1], [0, 1, 2], [2]], [[1]]), Store(3, [[0, 1], [2]], [])
THREES = some_stores(3, 30, 140)
STORES = all_small_stores() + THREES + some_stores(5, 40, 141) + some_stores(8, 10, 142)


def second_lets(store, board, wished):
    """Whether a search over deliveries comes from the board to the wished one."""
    return tuple(wished) in come_from(store, board, max(wished))


def let_pairs(store, most):
    """All pairs of boards of which the second comes from the first, none higher than that."""
    return {(tuple(board), wished) for board in all_boards(store.shelves, most)
            for wished in come_from(store, board, most)}


def all_pairs():
    """Pairs of small stores with as many shelves, each with what both let."""
    twos = [Store(2, [kind for kind, taken in zip(all_kinds(2), bits) if taken], [])
            for bits in product((0, 1), repeat=3)]
    for stores in (twos, THREES[:14]):
        lets = [let_pairs(store, 3 if store.shelves == 2 else 2) for store in stores]
        for store, lot in zip(stores, lets):
            for other, others in zip(stores, lets):
                yield store, other, lot, others


class LetsTest(unittest.TestCase):
    def test_the_examples(self):
        told = [
            needless(FULL), lean(FULL).deliveries(), lean(FULL).sales(), lets_all(BARE, FULL), lets_all(FULL, BARE),
            lets_all(SHOP, BARE), parting(BARE, FULL),
        ]
        self.assertEqual(told, [[1], [[0, 1], [2]], [[1]], True, True, False, None])
        told = [
            is_parting(SHOP, BARE, parting(SHOP, BARE)), is_parting(SHOP, BARE, ([0, 0, 5], [0, 0, 6])),
            is_parting(BARE, SHOP, ([0, 0, 5], [0, 0, 6])), is_parting(SHOP, BARE, ([0, 0, 1], [0, 0, 1])),
        ]
        self.assertEqual(told, [True, True, False, False])

    def test_exactly_if_no_board_parts_them(self):
        for store, other, lets, others in all_pairs():
            self.assertIs(lets_all(store, other), others <= lets, (store.deliveries(), other.deliveries()))

    def test_a_parting_exactly_if_it_does_not(self):
        for store, other, lets, others in all_pairs():
            told = parting(store, other)
            self.assertIs(told is None, lets_all(store, other))
            if told is not None:
                self.assertTrue(type(told) is tuple and [type(board) for board in told] == [list, list])
                board, wished = told
                self.assertTrue(second_lets(other, board, wished))
                self.assertFalse(second_lets(store, board, wished))
                self.assertIs(is_parting(store, other, told), True)
                self.assertIs(is_parting(store, other, (tuple(board), tuple(wished))), True)
                self.assertIs(is_parting(store, other, told[::-1]), False)

    def test_more_shelves(self):
        for stores in (STORES[-10:], STORES[-50:-10]):
            for store, other in zip(stores, stores[1:]):
                told = parting(store, other)
                self.assertIs(told is None, lets_all(store, other))
                self.assertIs(told is None or is_parting(store, other, told), True)

    def test_sales_count_for_nothing(self):
        for store, other in zip(THREES, THREES[1:]):
            bare, plain = Store(3, store.deliveries(), []), Store(3, other.deliveries(), [])
            self.assertIs(lets_all(bare, plain), lets_all(store, other))
            self.assertEqual(parting(bare, plain), parting(store, other))

    def test_itself_less_and_none(self):
        for store in STORES:
            none = Store(store.shelves, [], [])
            self.assertIs(lets_all(store, store), True)
            self.assertIs(lets_all(store, none), True)
            self.assertIs(parting(store, none), None)
            self.assertIs(lets_all(none, store), store.deliveries() == [])
            for position in range(len(store.deliveries())):
                self.assertIs(lets_all(store, without_delivery(store, position)), True)

    def test_unlike_shelves(self):
        two = Store(2, [[0]], [])
        for store, other in ((two, SHOP), (SHOP, two)):
            for function in (lets_all, parting):
                self.assertEqual(vars(raised(self, UnlikeShelves, lambda: function(store, other))), {})
            for value in ANY_VALUES:
                raised(self, UnlikeShelves, lambda: is_parting(store, other, value))
        for wrong in NO_STORES:
            self.assertTrue(same(raised(self, InvalidStore, lambda: is_parting(wrong, two, None)).value, wrong))
            self.assertTrue(same(raised(self, InvalidStore, lambda: is_parting(SHOP, wrong, None)).value, wrong))

    def test_wrong_parameters(self):
        stores, others = ("store", SHOP, InvalidStore, NO_STORES), ("other", BARE, InvalidStore, NO_STORES)
        for function in (lets_all, parting):
            check_parameters(self, function, stores, others)
        check_parameters(self, is_parting, stores, others, ("value", ([0, 0, 5], [0, 0, 6]), None, ()))
        for function in (lean, needless):
            check_parameters(self, function, ("store", FULL, InvalidStore, NO_STORES))


class PartingTest(unittest.TestCase):
    def test_the_judge_on_all_small_boards(self):
        for store, other, lets, others in all_pairs():
            most = 3 if store.shelves == 2 else 1
            boards = all_boards(store.shelves, most)
            for board, wished in product(boards, boards):
                pair = tuple(board), tuple(wished)
                good = pair in others and pair not in lets
                self.assertIs(is_parting(store, other, (board, wished)), good)

    def test_wrong_partings(self):
        board, wished = [0, 0, 5], [0, 0, 6]
        self.assertIs(is_parting(SHOP, BARE, (board, wished)), True)
        self.assertIs(is_parting(SHOP, BARE, ([0, 0, 59], [0, 0, 60])), True)
        wrongs = [
            (wished, board), (board, board), [board, wished], (board,), (board, wished, wished), (board, None),
            ([0, 0, 60], [0, 0, 61]), ([0, 0, 5, 0], [0, 0, 6, 0]), ([0, 5], [0, 6]), ((board, wished),),
            ([0, 0, 5], [0, False, 6]), ([False, 0, 5], [0, 0, 6]), ([0, 0, 5], [5, 5, 6]), ((), ()), ([], []),
        ]
        for wrong in wrongs:
            self.assertIs(is_parting(SHOP, BARE, wrong), False, wrong)
        for wrong in wrong_boards(3):
            self.assertIs(is_parting(SHOP, BARE, (board, wrong)), False)
            self.assertIs(is_parting(SHOP, BARE, (wrong, wished)), False)
        for wrong in NO_TUPLES:
            self.assertIs(is_parting(SHOP, BARE, wrong), False)

    def test_any_value(self):
        check_judge(self, lambda value: is_parting(SHOP, BARE, value), ([0, 0, 5], (0, 0, 6)))

    def test_told_is_new(self):
        board, wished = parting(SHOP, BARE)
        board.append(1)
        wished.append(1)
        self.assertIs(is_parting(SHOP, BARE, parting(SHOP, BARE)), True)


class LeanTest(unittest.TestCase):
    def test_needless_kinds(self):
        for store in STORES:
            kinds = store.deliveries()
            told = []
            for position, kind in enumerate(kinds):
                others = [other for other in kinds if other != kind and set(other) <= set(kind)]
                if set(kind) == {shelf for other in others for shelf in other}:
                    told.append(position)
            self.assertEqual(needless(store), told)
            lean_kinds = [kind for position, kind in enumerate(kinds) if position not in told]
            self.assertEqual(lean(store), Store(store.shelves, lean_kinds, store.sales()))

    def test_the_lean_store_lets_the_same(self):
        for store in STORES:
            told = lean(store)
            self.assertIs(lets_all(told, store), True)
            self.assertIs(lets_all(store, told), True)
            self.assertEqual(told.sales(), store.sales())
            self.assertEqual(lean(told), told)
            self.assertEqual(needless(told), [])

    def test_like_exactly_if_their_lean_stores_are(self):
        for store, other, lets, others in all_pairs():
            self.assertIs(lean(store).deliveries() == lean(other).deliveries(), lets == others)

    def test_told_is_new(self):
        needless(FULL).append(7)
        self.assertEqual(needless(FULL), [1])


if __name__ == "__main__":
    unittest.main()
