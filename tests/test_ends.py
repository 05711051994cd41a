"""Deliveries in a told sequence, and all ends: promises [74] and [75]."""

import random
import unittest
from itertools import product

from tests.helpers import (
    NO_LISTS, NO_STORES, changed_at, check_parameters, all_small_stores, raised, same, second_ends, some_stores,
    wrong_boards, wrong_counts, wrong_shelves,
)
from twoabove.deeds import first_barred, played
from twoabove.ends import all_ends, is_one_end, row_ends, span, two_histories
from twoabove.errors import InvalidBoard, InvalidCounts, InvalidPositions, InvalidShelf, InvalidStore, TooMany
from twoabove.stores import Store, with_sale

SHOP = Store(3, [[0, 1], [1, 2]], [])
EMPTY = [0, 0, 0]
PAIR = Store(2, [[0, 1]], [])
WIDE = Store(8, [list(range(8))], [])
HALVES = Store(8, [[0, 1, 2, 3], [4, 5, 6, 7]], [])
# Four deliveries to all, then one to each of six pairs: 198 boards; one pair more, and there are 224.
LINKED = Store(8, [list(range(8))] + [[shelf, shelf + 1] for shelf in range(7)], [])
LINKS = [1, 1, 1, 1, 0, 3, 5, 7, 2, 4]
WRONG_ROWS = NO_LISTS + (
    [True], [False], [0, True], [2], (0, 2), [-1], [0] * 21, (1,) * 21, [[0]], ["0"], [None], [{}], [{0}], [[]],
    [10 ** 29], [("put", 0, 0)], [Store(2, [], [])],
)


def second_row_ends(store, board, positions):
    """The boards behind each step of a told sequence, as sets."""
    steps = [{tuple(board)}]
    for position in positions:
        kind = store.deliveries()[position]
        steps.append({
            changed_at(one, shelf, 1) for one in steps[-1] for shelf in kind
            if one[shelf] == min(one[at] for at in kind)
        })
    return steps


def small_cases():
    """Small stores with a board, counts, and all ends by a search."""
    dice = random.Random(130)
    for store in all_small_stores()[::2] + some_stores(3, 80, 131) + some_stores(5, 60, 132):
        board = [dice.choice((0, 0, 1, 2)) for _ in range(store.shelves)]
        counts = [dice.randint(0, 3) for _ in store.deliveries()]
        while sum(counts) > 7:
            counts[dice.randrange(len(counts))] = 0
        yield store, board, counts, second_ends(store, board, counts)


class RowEndsTest(unittest.TestCase):
    def test_the_examples(self):
        told = [
            row_ends(SHOP, EMPTY, [0, 1]), all_ends(SHOP, EMPTY, [1, 1]), span(SHOP, EMPTY, [1, 1], 1),
            is_one_end(PAIR, [0, 0], [2]), is_one_end(SHOP, EMPTY, [1, 0]), two_histories(PAIR, [3, 0], [2]),
        ]
        three = [[0, 1, 1], [1, 0, 1], [1, 1, 0]]
        self.assertEqual(told, [three, three, (0, 1), True, False, None])

    def test_against_a_search(self):
        dice = random.Random(133)
        for store in all_small_stores()[::2] + some_stores(4, 80, 134):
            board = [dice.choice((0, 0, 1, 5)) for _ in range(store.shelves)]
            many = len(store.deliveries())
            positions = [dice.randrange(many) for _ in range(dice.randint(0, 20))] if many else []
            found = second_row_ends(store, board, positions)
            if max(len(step) for step in found) <= 200:
                told = row_ends(store, board, positions)
                self.assertEqual(told, sorted(list(one) for one in found[-1]))
                self.assertTrue(all(type(one) is list for one in told))
                self.assertTrue(same(row_ends(store, tuple(board), tuple(positions)), told))

    def test_the_sequence_counts(self):
        store = Store(3, [[0], [0, 1]], [])
        self.assertEqual(row_ends(store, EMPTY, [0, 1]), [[1, 1, 0]])
        self.assertEqual(row_ends(store, EMPTY, [1, 0]), [[1, 1, 0], [2, 0, 0]])
        self.assertEqual(row_ends(store, EMPTY, []), [EMPTY])
        self.assertEqual(row_ends(Store(2, [], [[0]]), (7, 60), ()), [[7, 60]])

    def test_many_boards(self):
        for store, positions in ((WIDE, [0] * 20), (HALVES, [0, 0, 1, 1] * 5), (LINKED, LINKS)):
            found = second_row_ends(store, [0] * 8, positions)
            self.assertLessEqual(max(len(step) for step in found), 200)
            self.assertEqual(row_ends(store, [0] * 8, positions), sorted(list(one) for one in found[-1]))

    def test_more_than_two_hundred_at_some_step(self):
        for more in ([6], [6, 1], [6] + [1] * 9):
            found = [len(step) for step in second_row_ends(LINKED, [0] * 8, LINKS + more)]
            self.assertEqual((found[10], found[11]), (198, 224))
            error = raised(self, TooMany, lambda: row_ends(LINKED, [0] * 8, LINKS + more))
            self.assertEqual((error.what, error.limit), ("boards", 200))
        self.assertEqual(found[-1], 70)

    def test_wrong_parameters(self):
        check_parameters(
            self, row_ends,
            ("store", SHOP, InvalidStore, NO_STORES), ("board", (1, 0, 0), InvalidBoard, wrong_boards(3)),
            ("positions", (0, 1), InvalidPositions, WRONG_ROWS),
        )
        check_parameters(
            self, row_ends,
            ("store", Store(2, [], [[0]]), InvalidStore, NO_STORES), ("board", [1, 0], InvalidBoard, wrong_boards(2)),
            ("positions", [], InvalidPositions, NO_LISTS + ([0], (0,), [None], [True])),
        )


class AllEndsTest(unittest.TestCase):
    def test_against_a_search(self):
        for store, board, counts, found in small_cases():
            if len(found) > 200:
                raised(self, TooMany, lambda: all_ends(store, board, counts))
                continue
            told = all_ends(store, board, counts)
            self.assertEqual(told, found, (store.deliveries(), board, counts))
            self.assertTrue(all(type(one) is list for one in told))
            self.assertTrue(same(all_ends(store, tuple(board), tuple(counts)), told))

    def test_span_and_one_end(self):
        for store, board, counts, found in small_cases():
            if len(found) > 200:
                continue
            for shelf in range(store.shelves):
                held = [end[shelf] for end in found]
                self.assertEqual(span(store, board, counts, shelf), (min(held), max(held)))
            self.assertIs(is_one_end(store, board, counts), len(found) == 1)

    def test_two_histories(self):
        for store, board, counts, found in small_cases():
            if len(found) > 200:
                continue
            told = two_histories(store, board, counts)
            if len(found) == 1:
                self.assertIs(told, None)
                continue
            self.assertTrue(type(told) is tuple and len(told) == 2)
            for history in told:
                self.assertIs(type(history), list)
                self.assertIs(first_barred(store, board, history), None)
                positions = [position for word, position, _ in history if word == "put"]
                self.assertEqual([positions.count(at) for at in range(len(counts))], counts)
                self.assertEqual(len(history), sum(counts))
            ends = [played(store, board, history) for history in told]
            self.assertNotEqual(ends[0], ends[1])

    def test_no_deliveries(self):
        for store in (SHOP, Store(3, [], [[0]])):
            counts = [0] * len(store.deliveries())
            self.assertEqual(all_ends(store, (60, 0, 3), counts), [[60, 0, 3]])
            self.assertEqual(span(store, [60, 0, 3], counts, 0), (60, 60))
            self.assertIs(is_one_end(store, [60, 0, 3], counts), True)
            self.assertIs(two_histories(store, [60, 0, 3], counts), None)

    def test_uneven_boards(self):
        self.assertEqual(all_ends(SHOP, [40, 0, 20], [6, 6]), [[40, 12, 20]])
        self.assertEqual(all_ends(PAIR, [50, 48], [3]), [[50, 51], [51, 50]])
        self.assertEqual(all_ends(PAIR, [48, 60], [12]), [[60, 60]])
        for store, board, counts in (
            (Store(3, [[0, 2], [1, 2]], []), [48, 0, 50], [10, 2]), (SHOP, [9, 10, 8], [3, 3]),
            (SHOP, [2, 0, 1], [6, 6]),
        ):
            self.assertEqual(all_ends(store, board, counts), second_ends(store, board, counts))

    def test_twelve_and_thirteen_pieces(self):
        self.assertEqual(all_ends(SHOP, EMPTY, [12, 0]), [[6, 6, 0]])
        self.assertEqual(all_ends(SHOP, EMPTY, [6, 6]), second_ends(SHOP, EMPTY, [6, 6]))
        for store, counts in ((SHOP, [13, 0]), (SHOP, (7, 6)), (WIDE, [20]), (HALVES, [2, 11]), (HALVES, [20, 20])):
            board = [0] * store.shelves
            for call in (
                lambda: all_ends(store, board, counts), lambda: span(store, board, counts, 0),
                lambda: is_one_end(store, board, counts), lambda: two_histories(store, board, counts),
            ):
                error = raised(self, TooMany, call)
                self.assertEqual((error.what, error.limit), ("pieces", 12))

    def test_two_hundred_ends_and_more(self):
        just = Store(8, [[0, 1, 2, 4], [0, 5, 7], [0, 6, 7], [1, 2, 5, 6], [1, 3], [2, 4, 7]], [])
        counts = [2, 1, 2, 1, 1, 2]
        self.assertEqual(len(all_ends(just, [0] * 8, counts)), 200)
        self.assertEqual(all_ends(just, [0] * 8, counts), second_ends(just, [0] * 8, counts))
        above = Store(8, [[0, 1, 2, 6], [0, 1, 3, 7], [1, 2, 3, 4, 5, 6, 7], [2, 3, 4, 6], [2, 5], [3, 6, 7]], [])
        self.assertEqual(len(second_ends(above, [0] * 8, [1, 1, 2, 2, 1, 1])), 201)
        for counts in ([1, 1, 2, 2, 1, 1], [2, 2, 2, 2, 2, 2]):
            for call in (
                lambda: all_ends(above, [0] * 8, counts), lambda: span(above, [0] * 8, counts, 7),
                lambda: is_one_end(above, [0] * 8, counts), lambda: two_histories(above, [0] * 8, counts),
            ):
                error = raised(self, TooMany, call)
                self.assertEqual((error.what, error.limit), ("boards", 200))

    def test_many_kinds(self):
        self.assertEqual(len(all_ends(WIDE, [0] * 8, [12])), 70)
        store = Store(8, [[0, 1, 2, 3, 4, 5, 6, 7], [0, 1, 2, 3, 4, 5, 6], [1, 2, 3, 4, 5, 6, 7]], [])
        for counts in ([4, 4, 4], [12, 0, 0], [1, 3, 2]):
            self.assertEqual(all_ends(store, [0] * 8, counts), second_ends(store, [0] * 8, counts))

    def test_sale_kinds_change_nothing(self):
        for store, board, counts, found in list(small_cases())[::9]:
            if len(found) <= 200:
                sold = with_sale(Store(store.shelves, store.deliveries(), []), [1])
                self.assertEqual(all_ends(sold, board, counts), found)

    def test_wrong_parameters(self):
        parameters = [
            ("store", SHOP, InvalidStore, NO_STORES), ("board", (1, 0, 0), InvalidBoard, wrong_boards(3)),
            ("counts", (1, 1), InvalidCounts, wrong_counts(2)),
        ]
        for function in (all_ends, is_one_end, two_histories):
            check_parameters(self, function, *parameters)
        check_parameters(self, span, *parameters, ("shelf", 2, InvalidShelf, wrong_shelves(3)))

    def test_a_wrong_shelf_comes_ahead_of_too_many(self):
        self.assertEqual(raised(self, InvalidShelf, lambda: span(SHOP, EMPTY, [20, 20], 3)).value, 3)
        counts = [21, 0]
        self.assertIs(raised(self, InvalidCounts, lambda: span(SHOP, EMPTY, counts, 3)).value, counts)

    def test_told_is_new(self):
        all_ends(SHOP, EMPTY, [1, 1])[0].append(1)
        row_ends(SHOP, EMPTY, [])[0].append(1)
        board = [1, 0, 0]
        row_ends(SHOP, board, [])[0].append(1)
        all_ends(SHOP, board, [0, 0])[0].append(1)
        self.assertEqual(board, [1, 0, 0])
        self.assertEqual(all_ends(SHOP, board, [0, 0]), [[1, 0, 0]])
        two_histories(SHOP, EMPTY, [1, 0])[0].clear()
        self.assertEqual([len(history) for history in two_histories(SHOP, EMPTY, [1, 0])], [1, 1])


if __name__ == "__main__":
    unittest.main()
