"""Deliveries alone, givers and bars: promises [51] and [52]."""

import random
import unittest
from itertools import product

from tests.helpers import (
    NO_STORES, NO_TUPLES, all_boards, all_small_stores, check_judge, check_parameters, come_from, raised, same,
    some_stores, wrong_boards,
)
from twoabove.deeds import first_barred, played
from twoabove.errors import InvalidBoard, InvalidStore, InvalidWished, TooMany
from twoabove.looks import are_givers, bar, comes, givers, is_bar, way
from twoabove.stores import Store

SHOP = Store(3, [[0, 1], [1, 2]], [])


def small_cases():
    """Small stores with two boards each, and whether the second comes from the first one by a search."""
    for store in all_small_stores()[::7]:
        for board in all_boards(2, 3):
            found = come_from(store, board, 4)
            for wished in all_boards(2, 4):
                yield store, board, wished, tuple(wished) in found
    for store in some_stores(3, 25, 80):
        for board in all_boards(3, 1):
            found = come_from(store, board, 3)
            for wished in all_boards(3, 3):
                yield store, board, wished, tuple(wished) in found


def second_are_givers(store, board, wished, pairs):
    """Whether a list of pairs is givers, from the words of the promises."""
    gaining = [shelf for shelf in range(store.shelves) if wished[shelf] > board[shelf]]
    if [shelf for shelf, _ in pairs] != gaining or any(one < other for one, other in zip(wished, board)):
        return False
    kinds = [store.deliveries()[position] for _, position in pairs]
    return all(
        shelf in kind and min(wished[one] for one in kind) >= wished[shelf] - 1
        for (shelf, _), kind in zip(pairs, kinds)
    )


def second_is_bar(store, board, wished, value):
    """Whether a tuple of a shelf and None or a list of shelves is a bar, from the words of the promise."""
    shelf, lows = value
    if lows is None:
        return wished[shelf] < board[shelf]
    kinds = [kind for kind in store.deliveries() if shelf in kind]
    return wished[shelf] > board[shelf] and len(lows) == len(kinds) and all(
        low in kind and wished[shelf] - wished[low] >= 2 for low, kind in zip(lows, kinds)
    )


def all_pair_lists(store):
    """All lists of at most as many pairs as shelves."""
    pairs = list(product(range(store.shelves), range(len(store.deliveries()))))
    return [list(row) for many in range(store.shelves + 1) for row in product(pairs, repeat=many)]


def all_bars(store):
    """All tuples of a shelf and None, or a list of at most as many shelves as kinds."""
    lows = [list(row) for many in range(len(store.deliveries()) + 1)
            for row in product(range(store.shelves), repeat=many)]
    return list(product(range(store.shelves), [None] + lows))


class ComesTest(unittest.TestCase):
    def test_the_examples(self):
        told = [
            comes(SHOP, [0, 0, 0], [2, 1, 0]), comes(SHOP, [0, 0, 0], [3, 1, 0]), givers(SHOP, [1, 1, 0], [2, 1, 0]),
            are_givers(SHOP, [0, 0, 0], [2, 1, 0], [(0, 0), (1, 1)]), bar(SHOP, [0, 0, 0], [3, 1, 0]),
            bar(SHOP, [1, 0, 0], [0, 0, 0]), is_bar(SHOP, [0, 0, 0], [3, 1, 0], (0, (1,))),
            way(SHOP, [1, 1, 0], [2, 1, 0]),
        ]
        self.assertEqual(told, [True, False, [(0, 0)], True, (0, [1]), (0, None), True, [("put", 0, 0)]])

    def test_exactly_if_a_search_comes_to_it(self):
        for store, board, wished, found in small_cases():
            self.assertIs(comes(store, board, wished), found, (store.deliveries(), board, wished))
            self.assertIs(comes(store, tuple(board), tuple(wished)), found)

    def test_givers_or_a_bar_never_both(self):
        for store, board, wished, found in small_cases():
            pairs, barred = givers(store, board, wished), bar(store, board, wished)
            self.assertIs(pairs is not None, found)
            self.assertIs(barred is None, found)
            if found:
                self.assertTrue(second_are_givers(store, board, wished, pairs))
                self.assertTrue(type(pairs) is list and all(type(pair) is tuple for pair in pairs))
                self.assertIs(are_givers(store, board, wished, pairs), True)
            else:
                self.assertTrue(second_is_bar(store, board, wished, barred))
                self.assertTrue(type(barred) is tuple and type(barred[1]) in (list, type(None)))
                self.assertIs(is_bar(store, board, wished, barred), True)

    def test_higher_boards(self):
        dice = random.Random(81)
        for store in some_stores(6, 40, 82):
            board = [dice.randint(0, 50) for _ in range(6)]
            for _ in range(8):
                wished = [min(60, pieces + dice.choice((0, 0, 1, 2))) for pieces in board]
                pairs, barred = givers(store, board, wished), bar(store, board, wished)
                self.assertIs(pairs is None, barred is not None)
                self.assertIs(comes(store, board, wished), barred is None)
                if barred is None:
                    self.assertTrue(second_are_givers(store, board, wished, pairs))
                else:
                    self.assertTrue(second_is_bar(store, board, wished, barred))

    def test_wrong_parameters(self):
        parameters = [
            ("store", SHOP, InvalidStore, NO_STORES), ("board", (1, 0, 0), InvalidBoard, wrong_boards(3)),
            ("wished", [2, 1, 0], InvalidWished, wrong_boards(3)),
        ]
        for function in (comes, givers, bar, way):
            check_parameters(self, function, *parameters)
        check_parameters(self, are_givers, *parameters, ("value", [(0, 0), (1, 1)], None, ()))
        check_parameters(self, is_bar, *parameters, ("value", (0, [1]), None, ()))


class GiversTest(unittest.TestCase):
    def test_the_judge_on_all_lists_of_pairs(self):
        for store in all_small_stores()[::9] + some_stores(3, 5, 83):
            lists = all_pair_lists(store)
            lists = lists if len(lists) < 100 else lists[::len(lists) // 100]
            for board, wished in product(all_boards(store.shelves, 1), all_boards(store.shelves, 2)):
                for pairs in lists:
                    good = second_are_givers(store, board, wished, pairs)
                    self.assertIs(are_givers(store, board, wished, pairs), good)

    def test_one_changed(self):
        board, wished = [0, 0, 0], [2, 2, 1]
        self.assertEqual(givers(SHOP, board, wished), [(0, 0), (1, 0), (2, 1)])
        good = [(0, 0), (1, 1), (2, 1)]
        self.assertIs(are_givers(SHOP, board, wished, good), True)
        self.assertIs(are_givers(SHOP, board, wished, tuple(good)), True)
        wrongs = [
            good[1:], good[:2], good + good[2:], good[::-1], [good[1], good[0], good[2]], good[:1] + good,
            [(0, 1), (1, 1), (2, 1)], [(0, 0), (1, 1), (2, 0)], [(0, 0), (1, 2), (2, 1)], [(0, 0), (1, -1), (2, 1)],
            [(0, 0), [1, 1], (2, 1)], [(0, False), (1, 1), (2, 1)], [(False, 0), (1, 1), (2, 1)],
            [(0, 0), (1, True), (2, 1)], [(0, 0), (True, 1), (2, 1)], [(0, 0), (1, 1, 1), (2, 1)],
            [(0, 0), (1,), (2, 1)], [(0, 0), (1, None), (2, 1)], [(0, 0), (1, [1]), (2, 1)], [(0, 0), (1, 1), (3, 1)],
            [(0, 0), (1, 1), (-1, 1)], (0, 0), [0, 0], {(0, 0): 1, (1, 1): 1, (2, 1): 1},
        ]
        for wrong in wrongs:
            self.assertIs(are_givers(SHOP, board, wished, wrong), False, wrong)
        for wrong in NO_TUPLES:
            self.assertIs(are_givers(SHOP, board, wished, good[:2] + [wrong]), False)
            self.assertIs(are_givers(SHOP, board, wished, [wrong] + good[1:]), False)

    def test_a_loser_bars_them(self):
        self.assertIs(are_givers(SHOP, [0, 0, 2], [1, 1, 1], [(0, 0), (1, 0)]), False)
        self.assertIs(are_givers(SHOP, [0, 0, 1], [1, 1, 1], [(0, 0), (1, 0)]), True)
        self.assertIs(are_givers(SHOP, [1, 1, 1], [1, 1, 0], []), False)

    def test_no_gainers(self):
        self.assertEqual(givers(SHOP, [5, 0, 60], [5, 0, 60]), [])
        self.assertIs(are_givers(SHOP, [5, 0, 60], [5, 0, 60], ()), True)
        self.assertIs(bar(SHOP, [5, 0, 60], [5, 0, 60]), None)
        self.assertEqual(way(SHOP, [5, 0, 60], [5, 0, 60]), [])

    def test_any_value(self):
        check_judge(self, lambda value: are_givers(SHOP, [1, 1, 0], [2, 1, 0], value), [(0, 0)], ((0, 0),))
        check_judge(self, lambda value: are_givers(SHOP, [0, 0, 0], [0, 0, 0], value), [], ())
        check_judge(self, lambda value: are_givers(SHOP, [0, 0, 0], [3, 0, 0], value))


class BarTest(unittest.TestCase):
    def test_the_judge_on_all_bars(self):
        for store in all_small_stores()[::9] + some_stores(3, 5, 84):
            bars = all_bars(store)
            bars = bars if len(bars) < 100 else bars[::len(bars) // 100]
            for board, wished in product(all_boards(store.shelves, 1), all_boards(store.shelves, 3)):
                for value in bars:
                    good = second_is_bar(store, board, wished, value)
                    self.assertIs(is_bar(store, board, wished, value), good)

    def test_a_gainer_without_a_kind(self):
        store = Store(3, [[0, 1]], [[2]])
        self.assertEqual(bar(store, [0, 0, 0], [0, 0, 1]), (2, []))
        self.assertIs(is_bar(store, [0, 0, 0], [0, 0, 1], (2, ())), True)
        self.assertIs(is_bar(store, [0, 0, 0], [0, 0, 1], (2, None)), False)
        self.assertIs(is_bar(store, [0, 0, 0], [0, 0, 1], (2, [0])), False)
        self.assertIs(is_bar(store, [0, 0, 0], [0, 0, 0], (2, [])), False)

    def test_a_loser(self):
        self.assertEqual(bar(SHOP, [1, 0, 0], [0, 0, 0]), (0, None))
        for wrong in ((0, []), (0, [1]), (1, None), (1, []), (2, None), (0,), (0, None, None), [0, None], (None, None),
                      (False, None), (0, False), (0, 0), (3, None), (-1, None), ("0", None), ([0], None)):
            self.assertIs(is_bar(SHOP, [1, 0, 0], [0, 0, 0], wrong), False, wrong)
        self.assertIs(is_bar(SHOP, [1, 5, 0], [0, 0, 0], (1, None)), True)
        self.assertIs(is_bar(SHOP, [0, 5, 0], [3, 0, 0], (0, [1])), True)
        self.assertIs(is_bar(SHOP, [0, 5, 0], [3, 0, 0], (1, None)), True)

    def test_a_gainer(self):
        store, wished = Store(4, [[0, 1], [0, 2], [0, 2, 3]], []), [3, 1, 1, 2]
        nothing = [0, 0, 0, 0]
        self.assertEqual(bar(store, nothing, wished), (0, [1, 2, 2]))
        for good in ((0, [1, 2, 2]), (0, (1, 2, 2))):
            self.assertIs(is_bar(store, nothing, wished, good), True)
        for lows in ([1, 2], [1, 2, 2, 2], [2, 1, 2], [1, 2, 3], [1, 2, 0], [0, 2, 2], [1, 1, 2], [], None, [1, 2, 1],
                     [True, 2, 2], [1, 2, True], [1, 2, None], [1, 2, "2"], [1, 2, [2]], [1, 2, 4], [1, 2, -1],
                     {0: 1, 1: 2, 2: 2}, "122", 0, True):
            self.assertIs(is_bar(store, nothing, wished, (0, lows)), False, lows)
        for wrong in ([0, [1, 2, 2]], (0, [1, 2, 2], 0), (1, [1, 2, 2]), (False, [1, 2, 2]), ((0, [1, 2, 2]),)):
            self.assertIs(is_bar(store, nothing, wished, wrong), False, wrong)
        self.assertIs(is_bar(store, nothing, [2, 1, 1, 1], (0, [1, 2, 2])), False)
        self.assertIs(is_bar(store, [3, 0, 0, 0], wished, (0, [1, 2, 2])), False)

    def test_any_value(self):
        check_judge(self, lambda value: is_bar(SHOP, [0, 0, 0], [3, 1, 0], value), (0, [1]), (0, (1,)))
        check_judge(self, lambda value: is_bar(SHOP, [1, 0, 0], [0, 0, 0], value), (0, None))
        check_judge(self, lambda value: is_bar(SHOP, [0, 0, 0], [0, 0, 0], value))

    def test_told_is_new(self):
        told = bar(SHOP, [0, 0, 0], [3, 1, 0])
        told[1].append(5)
        self.assertEqual(bar(SHOP, [0, 0, 0], [3, 1, 0]), (0, [1]))
        pairs = givers(SHOP, [1, 1, 0], [2, 1, 0])
        pairs.append((7, 7))
        self.assertEqual(givers(SHOP, (1, 1, 0), (2, 1, 0)), [(0, 0)])


class WayTest(unittest.TestCase):
    def test_by_the_custom_to_the_wished_board(self):
        for store, board, wished, found in small_cases():
            history = way(store, board, wished)
            if not found:
                self.assertIs(history, None)
                continue
            self.assertIs(first_barred(store, board, history), None)
            self.assertEqual(played(store, board, history), wished)
            self.assertEqual([deed[0] for deed in history], ["put"] * (sum(wished) - sum(board)))
            self.assertTrue(same(way(store, tuple(board), tuple(wished)), history))

    def test_long_ways(self):
        dice = random.Random(85)
        for store in some_stores(5, 40, 86):
            wished = [0] * 5
            for _ in range(190):
                gives = [kind for kind in store.deliveries() if min(wished[one] for one in kind) < 60]
                if gives:
                    kind = dice.choice(gives)
                    wished[min(kind, key=lambda one: (wished[one], dice.random()))] += 1
            history = way(store, [0] * 5, wished)
            self.assertEqual(len(history), sum(wished))
            self.assertEqual(played(store, [0] * 5, history), wished)

    def test_two_hundred_deeds(self):
        store = Store(4, [[0, 1, 2, 3]], [])
        self.assertEqual(played(store, [0] * 4, way(store, [0] * 4, [50] * 4)), [50] * 4)
        self.assertEqual(len(way(store, [1, 1, 1, 0], [51, 51, 51, 50])), 200)
        for wished in ([51, 50, 50, 50], [60] * 4):
            error = raised(self, TooMany, lambda: way(store, [0] * 4, wished))
            self.assertEqual((error.what, error.limit), ("deeds", 200))
        self.assertIs(way(store, [0] * 4, [60, 60, 60, 58]), None)
        self.assertIs(way(store, [0, 0, 0, 60], [60, 60, 60, 59]), None)
        self.assertIs(way(Store(4, [[0, 1, 2]], []), [0] * 4, [60, 60, 60, 60]), None)


if __name__ == "__main__":
    unittest.main()
