"""Sales alone, takers and stops: promise [53]."""

import random
import unittest
from itertools import product

from tests.helpers import (
    NO_STORES, NO_TUPLES, all_boards, all_small_stores, check_judge, check_parameters, go_from, raised, same,
    second_takes, some_stores, wrong_boards,
)
from twoabove.deeds import first_barred, played
from twoabove.errors import InvalidBoard, InvalidStore, InvalidWished, TooMany
from twoabove.sellings import are_takers, goes, is_stop, stop, takers, way_down
from twoabove.stores import Store

SOLD = Store(2, [], [[0, 1]])
TWO = Store(3, [[0], [1], [2]], [[0, 1], [1, 2]])


def small_cases():
    """Small stores with two boards each, and whether the first goes to the second by a search."""
    for store in all_small_stores()[1::7]:
        for board in all_boards(2, 4):
            found = go_from(store, board)
            for wished in all_boards(2, 4):
                yield store, board, wished, tuple(wished) in found
    for store in some_stores(3, 25, 90):
        for board in all_boards(3, 3)[::2]:
            found = go_from(store, board)
            for wished in all_boards(3, 3)[::3]:
                yield store, board, wished, tuple(wished) in found


def second_are_takers(store, board, wished, pairs):
    """Whether a list of pairs is takers, from the words of the promise."""
    losing = [shelf for shelf in range(store.shelves) if wished[shelf] < board[shelf]]
    if [shelf for shelf, _ in pairs] != losing or any(one > other for one, other in zip(wished, board)):
        return False
    kinds = [store.sales()[position] for _, position in pairs]
    return all(
        shelf in kind and max(wished[one] for one in kind) <= wished[shelf] + 1
        for (shelf, _), kind in zip(pairs, kinds)
    )


def second_is_stop(store, board, wished, value):
    """Whether a tuple of a shelf and None or a list of shelves is a stop, from the words of the promise."""
    shelf, highs = value
    if highs is None:
        return wished[shelf] > board[shelf]
    kinds = [kind for kind in store.sales() if shelf in kind]
    return wished[shelf] < board[shelf] and len(highs) == len(kinds) and all(
        high in kind and wished[high] - wished[shelf] >= 2 for high, kind in zip(highs, kinds)
    )


class GoesTest(unittest.TestCase):
    def test_the_examples(self):
        told = [
            goes(SOLD, [3, 1], [1, 1]), goes(SOLD, [3, 3], [1, 3]), takers(SOLD, [3, 1], [1, 1]),
            stop(SOLD, [3, 3], [1, 3]), stop(SOLD, [0, 0], [1, 0]), are_takers(SOLD, [1, 1], [1, 1], []),
            is_stop(SOLD, [3, 3], [1, 3], (0, [0])), way_down(SOLD, [2, 1], [1, 1]),
        ]
        self.assertEqual(told, [True, False, [(0, 0)], (0, [1]), (0, None), True, False, [("take", 0, 0)]])

    def test_exactly_if_a_search_goes_to_it(self):
        for store, board, wished, found in small_cases():
            self.assertIs(goes(store, board, wished), found, (store.sales(), board, wished))
            self.assertIs(goes(store, tuple(board), tuple(wished)), found)

    def test_takers_or_a_stop_never_both(self):
        for store, board, wished, found in small_cases():
            pairs, stopped = takers(store, board, wished), stop(store, board, wished)
            self.assertIs(pairs is not None, found)
            self.assertIs(stopped is None, found)
            if found:
                self.assertTrue(second_are_takers(store, board, wished, pairs))
                self.assertTrue(type(pairs) is list and all(type(pair) is tuple for pair in pairs))
                self.assertIs(are_takers(store, board, wished, pairs), True)
            else:
                self.assertTrue(second_is_stop(store, board, wished, stopped))
                self.assertTrue(type(stopped) is tuple and type(stopped[1]) in (list, type(None)))
                self.assertIs(is_stop(store, board, wished, stopped), True)

    def test_full_shelves_and_empty_ones(self):
        self.assertIs(goes(SOLD, [60, 60], [0, 0]), True)
        self.assertIs(goes(SOLD, [60, 60], [0, 1]), True)
        self.assertIs(goes(SOLD, [60, 60], [0, 2]), False)
        self.assertIs(goes(SOLD, [60, 2], [0, 2]), False)
        self.assertIs(goes(SOLD, [60, 0], [0, 0]), True)
        self.assertIs(goes(SOLD, [0, 0], [0, 0]), True)
        self.assertIs(goes(Store(2, [[0, 1]], []), [1, 0], [0, 0]), False)

    def test_wrong_parameters(self):
        parameters = [
            ("store", TWO, InvalidStore, NO_STORES), ("board", (3, 1, 0), InvalidBoard, wrong_boards(3)),
            ("wished", [1, 1, 0], InvalidWished, wrong_boards(3)),
        ]
        for function in (goes, takers, stop, way_down):
            check_parameters(self, function, *parameters)
        check_parameters(self, are_takers, *parameters, ("value", [(0, 0)], None, ()))
        check_parameters(self, is_stop, *parameters, ("value", (0, [1]), None, ()))


class JudgesTest(unittest.TestCase):
    def test_on_all_takers(self):
        for store in all_small_stores()[1::9] + some_stores(3, 4, 91):
            pairs = list(product(range(store.shelves), range(len(store.sales()))))
            lists = [list(row) for many in range(store.shelves) for row in product(pairs, repeat=many)]
            for board, wished in product(all_boards(store.shelves, 2), all_boards(store.shelves, 1)):
                for value in lists[::1 + len(lists) // 60]:
                    good = second_are_takers(store, board, wished, value)
                    self.assertIs(are_takers(store, board, wished, value), good)

    def test_on_all_stops(self):
        for store in all_small_stores()[1::9] + some_stores(3, 4, 92):
            shelves = range(store.shelves)
            highs = [list(row) for many in range(len(store.sales()) + 1) for row in product(shelves, repeat=many)]
            stops = list(product(shelves, [None] + highs))
            for board, wished in product(all_boards(store.shelves, 3)[::2], all_boards(store.shelves, 2)):
                for value in stops[::1 + len(stops) // 60]:
                    good = second_is_stop(store, board, wished, value)
                    self.assertIs(is_stop(store, board, wished, value), good)

    def test_takers_with_one_changed(self):
        board, wished = [3, 3, 3], [1, 1, 2]
        good = [(0, 0), (1, 1), (2, 1)]
        self.assertIs(are_takers(TWO, board, wished, good), True)
        self.assertIs(are_takers(TWO, board, wished, tuple(good)), True)
        wrongs = [
            good[1:], good[:2], good + good[2:], good[::-1], good[:1] + good, [(0, 1), (1, 1), (2, 1)],
            [(0, 0), (1, 1), (2, 0)], [(0, 0), (1, 2), (2, 1)], [(0, 0), (1, -1), (2, 1)], [(0, 0), [1, 1], (2, 1)],
            [(0, False), (1, 1), (2, 1)], [(False, 0), (1, 1), (2, 1)], [(0, 0), (1, True), (2, 1)],
            [(0, 0), (1, 1, 1), (2, 1)], [(0, 0), (1,), (2, 1)], (0, 0), [0, 0],
        ]
        for wrong in wrongs:
            self.assertIs(are_takers(TWO, board, wished, wrong), False, wrong)
        for wrong in NO_TUPLES:
            self.assertIs(are_takers(TWO, board, wished, good[:2] + [wrong]), False)

    def test_stops_with_one_changed(self):
        board, wished = [3, 3, 3], [3, 0, 2]
        self.assertEqual(stop(TWO, board, wished), (1, [0, 2]))
        for good in ((1, [0, 2]), (1, (0, 2))):
            self.assertIs(is_stop(TWO, board, wished, good), True)
        for highs in (None, [], [0], [0, 2, 2], [2, 0], [1, 2], [0, 1], [False, 2], [0, None], [0, "2"], [0, 3], {}):
            self.assertIs(is_stop(TWO, board, wished, (1, highs)), False)
        for wrong in ([1, [0, 2]], (True, [0, 2]), (0, [0, 2]), (1,), (1, [0, 2], 0), (2, []), (2, [0])):
            self.assertIs(is_stop(TWO, board, wished, wrong), False)
        self.assertIs(is_stop(TWO, board, [3, 1, 2], (1, [0, 2])), False)

    def test_a_gainer_and_a_loser_without_a_kind(self):
        self.assertEqual(stop(TWO, [0, 1, 0], [0, 2, 0]), (1, None))
        for wrong in ((1, []), (1, [0, 2]), (True, None), (0, None), (1, False), (1, 0)):
            self.assertIs(is_stop(TWO, [0, 1, 0], [0, 2, 0], wrong), False)
        self.assertEqual(stop(Store(2, [[0]], [[1]]), [1, 1], [0, 1]), (0, []))
        self.assertIs(is_stop(Store(2, [[0]], [[1]]), [1, 1], [0, 1], (0, ())), True)
        self.assertIs(is_stop(Store(2, [[0]], [[1]]), [1, 1], [0, 1], (0, None)), False)

    def test_any_value(self):
        check_judge(self, lambda value: are_takers(SOLD, [3, 1], [1, 1], value), [(0, 0)], ((0, 0),))
        check_judge(self, lambda value: are_takers(SOLD, [3, 1], [3, 1], value), [], ())
        check_judge(self, lambda value: is_stop(SOLD, [3, 3], [1, 3], value), (0, [1]), (0, (1,)))
        check_judge(self, lambda value: is_stop(SOLD, [0, 0], [1, 0], value), (0, None))

    def test_told_is_new(self):
        told = stop(SOLD, [3, 3], [1, 3])
        told[1].append(0)
        self.assertEqual(stop(SOLD, [3, 3], [1, 3]), (0, [1]))
        takers(SOLD, [3, 1], [1, 1]).append((1, 0))
        self.assertEqual(takers(SOLD, (3, 1), (1, 1)), [(0, 0)])


class WayDownTest(unittest.TestCase):
    def test_by_the_custom_to_the_wished_board(self):
        for store, board, wished, found in small_cases():
            history = way_down(store, board, wished)
            if not found:
                self.assertIs(history, None)
                continue
            self.assertIs(first_barred(store, board, history), None)
            self.assertEqual(played(store, board, history), wished)
            self.assertEqual([deed[0] for deed in history], ["take"] * (sum(board) - sum(wished)))
            self.assertTrue(same(way_down(store, tuple(board), tuple(wished)), history))

    def test_long_ways(self):
        dice = random.Random(93)
        for store in some_stores(5, 40, 94):
            board = [dice.randint(30, 60) for _ in range(5)]
            wished = tuple(board)
            for _ in range(150):
                behind = second_takes(store, wished)
                wished = dice.choice(behind) if behind else wished
            history = way_down(store, board, list(wished))
            self.assertEqual(len(history), sum(board) - sum(wished))
            self.assertEqual(played(store, board, history), list(wished))

    def test_two_hundred_deeds(self):
        store = Store(4, [], [[0, 1, 2, 3]])
        self.assertEqual(played(store, [50] * 4, way_down(store, [50] * 4, [0] * 4)), [0] * 4)
        for board in ([51, 50, 50, 50], [60] * 4):
            error = raised(self, TooMany, lambda: way_down(store, board, [0] * 4))
            self.assertEqual((error.what, error.limit), ("deeds", 200))
        self.assertIs(way_down(store, [60] * 4, [0, 0, 0, 2]), None)
        self.assertIs(way_down(store, [60, 60, 60, 0], [0, 0, 0, 1]), None)


if __name__ == "__main__":
    unittest.main()
