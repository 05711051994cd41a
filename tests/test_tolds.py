"""Told deliveries, places, dealings and crowds: promises [71] to [73]."""

import random
import unittest
from itertools import product

from tests.helpers import (
    NO_LISTS, NO_STORES, NO_TUPLES, all_boards, all_lots, all_small_stores, check_judge, check_parameters, raised, same,
    second_ends, some_stores, wrong_boards, wrong_counts, wrong_positions,
)
from twoabove.deeds import first_barred, played
from twoabove.errors import InvalidBoard, InvalidCounts, InvalidPosition, InvalidStore, InvalidWished
from twoabove.stores import Store, with_sale
from twoabove.tolds import can_end, crowd, dealing, is_crowd, is_dealing, places, told_way

SHOP = Store(3, [[0, 1], [1, 2]], [])
EMPTY = [0, 0, 0]


def second_places(store, board, wished, position):
    """The places that a kind can take, from the words of the promise, as a set."""
    kind = store.deliveries()[position]
    return {
        (shelf, level) for shelf in kind for level in range(60)
        if board[shelf] <= level <= wished[shelf] - 1 and all(level <= wished[one] for one in kind)
    }


def second_is_dealing(store, board, counts, wished, value):
    """Whether a list of lists of places is a dealing, from the words of the promise."""
    if [len(dealt) for dealt in value] != list(counts):
        return False
    seen = [place for dealt in value for place in dealt]
    return len(set(seen)) == len(seen) and all(
        set(dealt) <= second_places(store, board, wished, position) for position, dealt in enumerate(value)
    )


def second_is_crowd(store, board, counts, wished, value):
    """Whether a list of unlike positions is a crowd, from the words of the promise."""
    taken = set().union(*[second_places(store, board, wished, position) for position in value])
    return sum(counts[position] for position in value) > len(taken)


def wished_boards(store, board, many):
    """All boards that are nowhere below the board and have so many pieces more."""
    return [
        [held + more for held, more in zip(board, gain)]
        for gain in product(range(many + 1), repeat=store.shelves) if sum(gain) == many
    ]


def small_cases():
    """Small stores with a board, counts, a wished board each, and whether it can be the end by a search."""
    cases = [(store, [0, 0]) for store in all_small_stores()[::3]]
    cases += [(store, [2, 0]) for store in all_small_stores()[::5]]
    dice = random.Random(120)
    cases += [(store, [dice.randint(0, 2) for _ in range(3)]) for store in some_stores(3, 60, 121)]
    cases += [(store, [dice.randint(0, 1) for _ in range(4)]) for store in some_stores(4, 12, 122)]
    for store, board in cases:
        for _ in range(3):
            counts = [dice.randint(0, 2) for _ in store.deliveries()]
            while sum(counts) > 5:
                counts[dice.randrange(len(counts))] = 0
            found = second_ends(store, board, counts)
            for wished in wished_boards(store, board, sum(counts)):
                yield store, board, counts, wished, wished in found


class PlacesTest(unittest.TestCase):
    def test_the_examples(self):
        told = [
            places(SHOP, EMPTY, [2, 1, 0], 0), can_end(SHOP, EMPTY, [3, 0], [2, 1, 0]),
            can_end(SHOP, EMPTY, [2, 1], [2, 1, 0]), can_end(SHOP, EMPTY, [3, 0], [3, 0, 0]),
        ]
        self.assertEqual(told, [[(0, 0), (0, 1), (1, 0)], True, True, False])
        told = [
            is_dealing(SHOP, EMPTY, [2, 1], [2, 1, 0], [[(0, 1), (0, 0)], [(1, 0)]]),
            is_crowd(SHOP, EMPTY, [3, 0], [3, 0, 0], crowd(SHOP, EMPTY, [3, 0], [3, 0, 0])),
            is_crowd(SHOP, EMPTY, [3, 0], [3, 0, 0], (1, 0)), told_way(SHOP, EMPTY, [3, 0], [2, 1, 0])[2],
        ]
        self.assertEqual(told, [True, True, True, ("put", 0, 0)])

    def test_from_the_words(self):
        dice = random.Random(123)
        for store in all_small_stores()[::2] + some_stores(5, 60, 124):
            board = [dice.randint(0, 4) for _ in range(store.shelves)]
            wished = [pieces + dice.randint(0, 3) for pieces in board]
            for position in range(len(store.deliveries())):
                told = places(store, board, wished, position)
                self.assertEqual(told, sorted(second_places(store, board, wished, position)))
                self.assertTrue(same(places(store, tuple(board), tuple(wished), position), told))

    def test_at_both_ends(self):
        self.assertEqual(places(SHOP, [60, 60, 60], [60, 60, 60], 0), [])
        self.assertEqual(places(SHOP, [59, 59, 60], [60, 60, 60], 1), [(1, 59)])
        self.assertEqual(places(SHOP, [0, 0, 0], [60, 1, 0], 0), [(0, 0), (0, 1), (1, 0)])
        self.assertEqual(places(SHOP, [0, 0, 0], [60, 1, 0], 1), [(1, 0)])
        self.assertEqual(places(SHOP, [2, 0, 0], [60, 1, 0], 0), [(1, 0)])

    def test_wrong_parameters(self):
        check_parameters(
            self, places,
            ("store", SHOP, InvalidStore, NO_STORES), ("board", [1, 0, 0], InvalidBoard, wrong_boards(3)),
            ("wished", (2, 1, 0), InvalidWished, wrong_boards(3) + ([0, 60, 60], (0, 0, 0))),
            ("position", 0, InvalidPosition, wrong_positions(2)),
        )
        bare = Store(2, [], [[0, 1]])
        self.assertEqual(raised(self, InvalidPosition, lambda: places(bare, [0, 0], [1, 0], 0)).value, 0)


class EndTest(unittest.TestCase):
    def test_exactly_if_a_search_comes_to_it(self):
        for store, board, counts, wished, found in small_cases():
            self.assertIs(can_end(store, board, counts, wished), found, (store.deliveries(), board, counts, wished))
            self.assertIs(can_end(store, tuple(board), tuple(counts), tuple(wished)), found)

    def test_a_dealing_or_a_crowd_never_both(self):
        for store, board, counts, wished, found in small_cases():
            dealt, crowded = dealing(store, board, counts, wished), crowd(store, board, counts, wished)
            self.assertIs(dealt is not None, found)
            self.assertIs(crowded is None, found)
            if found:
                self.assertTrue(second_is_dealing(store, board, counts, wished, dealt))
                self.assertTrue(type(dealt) is list and all(type(row) is list for row in dealt))
                self.assertTrue(all(type(place) is tuple for row in dealt for place in row))
                self.assertIs(is_dealing(store, board, counts, wished, dealt), True)
            else:
                self.assertTrue(second_is_crowd(store, board, counts, wished, crowded))
                self.assertTrue(type(crowded) is list and crowded == sorted(crowded))
                self.assertIs(is_crowd(store, board, counts, wished, crowded), True)

    def test_a_history_of_just_these_deliveries(self):
        for store, board, counts, wished, found in small_cases():
            history = told_way(store, board, counts, wished)
            if not found:
                self.assertIs(history, None)
                continue
            self.assertIs(first_barred(store, board, history), None)
            self.assertEqual(played(store, board, history), wished)
            positions = [position for _, position, _ in history]
            self.assertEqual([positions.count(at) for at in range(len(counts))], counts)
            self.assertEqual({word for word, _, _ in history} <= {"put"}, True)
            self.assertTrue(same(told_way(store, tuple(board), tuple(counts), tuple(wished)), history))

    def test_great_counts(self):
        dice = random.Random(125)
        for store in some_stores(6, 60, 126):
            board = [dice.randint(0, 30) for _ in range(6)]
            counts = [dice.choice((0, 1, 7, 20)) for _ in store.deliveries()]
            wished, left = list(board), list(counts)
            while any(left):
                position = dice.choice([at for at, count in enumerate(left) if count])
                kind = store.deliveries()[position]
                wished[min(kind, key=lambda one: (wished[one], dice.random()))] += 1
                left[position] -= 1
            if max(wished) > 60:
                continue
            dealt = dealing(store, board, counts, wished)
            self.assertTrue(second_is_dealing(store, board, counts, wished, dealt))
            self.assertIs(crowd(store, board, counts, wished), None)
            history = told_way(store, board, counts, wished)
            self.assertEqual(played(store, board, history), wished)
            if sum(counts):
                moved = list(wished)
                giver = dice.choice([one for one in range(6) if wished[one] > board[one]])
                moved[giver] -= 1
                moved[(giver + 1) % 6] += 1
                if max(moved) <= 60:
                    crowded = crowd(store, board, counts, moved)
                    self.assertIs(crowded is None, dealing(store, board, counts, moved) is not None)
                    if crowded is not None:
                        self.assertTrue(second_is_crowd(store, board, counts, moved, crowded))

    def test_eight_kinds_of_twenty(self):
        store = Store(8, [[shelf] for shelf in range(8)], [])
        counts, wished = [20] * 8, [20] * 8
        self.assertIs(can_end(store, [0] * 8, counts, wished), True)
        history = told_way(store, [0] * 8, counts, wished)
        self.assertEqual(len(history), 160)
        self.assertEqual(played(store, [0] * 8, history), wished)
        self.assertEqual(crowd(store, [0] * 8, counts, [19, 21] + [20] * 6), [0])
        ring = Store(8, [[shelf, (shelf + 1) % 8] for shelf in range(8)], [])
        self.assertIs(can_end(ring, [40] * 8, counts, [60] * 8), True)
        self.assertEqual(played(ring, [40] * 8, told_way(ring, [40] * 8, counts, [60] * 8)), [60] * 8)

    def test_no_deliveries(self):
        for store in (SHOP, Store(3, [], [[0, 1]])):
            counts = [0] * len(store.deliveries())
            for board in (EMPTY, [60, 0, 7]):
                self.assertIs(can_end(store, board, counts, board), True)
                self.assertEqual(dealing(store, board, counts, board), [[] for _ in counts])
                self.assertIs(crowd(store, board, counts, board), None)
                self.assertEqual(told_way(store, board, counts, board), [])
                self.assertIs(is_dealing(store, board, counts, board, tuple(() for _ in counts)), True)

    def test_a_store_without_delivery_kinds(self):
        bare = Store(2, [], [[0, 1]])
        self.assertIs(is_dealing(bare, [1, 0], [], [1, 0], []), True)
        self.assertIs(is_dealing(bare, [1, 0], (), (1, 0), ()), True)
        self.assertIs(is_crowd(bare, [1, 0], [], [1, 0], []), False)
        wished = [2, 0]
        self.assertIs(raised(self, InvalidWished, lambda: can_end(bare, [1, 0], [], wished)).value, wished)

    def test_sale_kinds_change_nothing(self):
        for store, board, counts, wished, found in list(small_cases())[::7]:
            sold = with_sale(Store(store.shelves, store.deliveries(), []), [0])
            self.assertIs(can_end(sold, board, counts, wished), found)
            bare = Store(store.shelves, store.deliveries(), [])
            self.assertEqual(dealing(sold, board, counts, wished), dealing(bare, board, counts, wished))
            self.assertEqual(crowd(sold, board, counts, wished), crowd(bare, board, counts, wished))

    def test_wrong_parameters(self):
        wisheds = wrong_boards(3) + ([2, 1, 1], [1, 1, 0], [0, 2, 1], (3, 0, 1), [1, 0, 0], [60, 60, 60])
        parameters = [
            ("store", SHOP, InvalidStore, NO_STORES), ("board", (1, 0, 0), InvalidBoard, wrong_boards(3)),
            ("counts", [1, 1], InvalidCounts, wrong_counts(2)), ("wished", (2, 1, 0), InvalidWished, wisheds),
        ]
        for function in (can_end, dealing, crowd, told_way):
            check_parameters(self, function, *parameters)
        check_parameters(self, is_dealing, *parameters, ("value", [[(0, 1)], [(1, 0)]], None, ()))
        check_parameters(self, is_crowd, *parameters, ("value", [0], None, ()))
        check_parameters(
            self, can_end, ("store", Store(2, [], []), InvalidStore, NO_STORES),
            ("board", [1, 0], InvalidBoard, wrong_boards(2)), ("counts", (), InvalidCounts, wrong_counts(0)),
            ("wished", [1, 0], InvalidWished, wrong_boards(2) + ([1, 1], [0, 0], [0, 1], [2, 0])),
        )


class JudgesTest(unittest.TestCase):
    def test_on_all_small_dealings(self):
        for store in [Store(2, [[0], [0, 1]], []), Store(2, [[0, 1], [1]], []), Store(3, [[0, 1], [1, 2]], [[0]])]:
            for board, counts in product(all_boards(store.shelves, 1)[:4], product(range(3), repeat=2)):
                for wished in wished_boards(store, board, sum(counts)):
                    spots = list(product(range(store.shelves), range(max(wished) + 1)))
                    rows = [list(product(spots, repeat=count)) for count in counts]
                    for value in list(product(*rows))[::1 + len(rows[0]) * len(rows[1]) // 50]:
                        good = second_is_dealing(store, board, counts, wished, value)
                        self.assertIs(is_dealing(store, board, counts, wished, value), good)
                        as_lists = [list(row) for row in value]
                        self.assertIs(is_dealing(store, board, counts, wished, as_lists), good)

    def test_a_dealing_with_something_changed(self):
        board, counts, wished = [0, 0, 0], [2, 2], [1, 2, 1]
        good = [[(0, 0), (1, 1)], [(1, 0), (2, 0)]]
        for value in (good, tuple(good), (tuple(good[0]), good[1]), [good[0][::-1], good[1][::-1]]):
            self.assertIs(is_dealing(SHOP, board, counts, wished, value), True)
        wrongs = [
            good[:1], good + [[]], good[::-1], [], [[], []], [good[0]], [good[0][:1], good[1]],
            [good[0] + [(1, 0)], good[1]], [[(0, 0), (0, 0)], good[1]], [[(0, 0), (1, 0)], good[1]],
            [[(0, 0), (2, 0)], [(1, 0), (1, 1)]], [[(0, 0), (1, 2)], good[1]], [[(0, 0), (0, 1)], good[1]],
            [[[0, 0], (1, 1)], good[1]], [[(0, 0), [1, 1]], good[1]], [[(0, False), (1, 1)], good[1]],
            [[(False, 0), (1, 1)], good[1]], [[(0, 0), (True, 1)], good[1]], [[(0, 0), (1, True)], good[1]],
            [[(0, 0), (1, 1, 1)], good[1]], [[(0, 0), (1,)], good[1]], [[(0, 0), ()], good[1]],
            [[(0, 0), (1, -1)], good[1]], [[(0, 0), (-1, 0)], good[1]], [[(0, 0), (3, 0)], good[1]],
            [[(0, 0), (1, "1")], good[1]], [[(0, 0), (1, [1])], good[1]], [[(0, 0), None], good[1]],
            {0: good[0], 1: good[1]}, [{(0, 0): 1, (1, 1): 1}, good[1]], [good[0] + good[1], []],
            [[], good[0] + good[1]],
            [[(0, 0), (1, {})], good[1]], [[(0, 0), ({}, 1)], good[1]], [[(0, 0), (1, {1})], good[1]],
        ]
        for wrong in wrongs:
            self.assertIs(is_dealing(SHOP, board, counts, wished, wrong), False, wrong)
        for wrong in NO_TUPLES:
            self.assertIs(is_dealing(SHOP, board, counts, wished, [[(0, 0), wrong], good[1]]), False)
        for wrong in NO_LISTS:
            self.assertIs(is_dealing(SHOP, board, counts, wished, [good[0], wrong]), False)

    def test_on_all_crowds(self):
        for store, board, counts, wished, _ in list(small_cases())[::3]:
            for lot in all_lots(len(counts)):
                good = second_is_crowd(store, board, counts, wished, lot)
                for value in (lot, lot[::-1], tuple(lot)):
                    self.assertIs(is_crowd(store, board, counts, wished, value), good)
                for wrong in (lot + lot[:1], lot + [len(counts)], lot + [-1], [[one] for one in lot]):
                    if wrong:
                        self.assertIs(is_crowd(store, board, counts, wished, wrong), False)

    def test_a_crowd_with_a_kind_of_no_count(self):
        store = Store(3, [[0], [0, 1], [2]], [])
        self.assertIs(is_crowd(store, EMPTY, [0, 0, 2], [1, 0, 1], [2]), True)
        self.assertIs(is_crowd(store, EMPTY, [0, 0, 2], [1, 0, 1], [0, 2]), False)
        self.assertIs(is_crowd(store, EMPTY, [0, 0, 2], [0, 2, 0], [0, 2]), True)
        self.assertIs(is_crowd(store, EMPTY, [0, 0, 2], [0, 2, 0], (2, 0)), True)
        self.assertIs(is_crowd(store, EMPTY, [0, 0, 2], [0, 2, 0], [0]), False)
        self.assertIs(is_crowd(store, EMPTY, [0, 0, 2], [0, 2, 0], []), False)
        for wrong in ([2, 2], [True, 2], [2, False], [3, 2], [-1, 2], ["2"], [[2]], [None], {2: 2}, {2}, "2", 2, None):
            self.assertIs(is_crowd(store, EMPTY, [0, 0, 2], [0, 2, 0], wrong), False)

    def test_any_value(self):
        case = (SHOP, EMPTY, [1, 0], [1, 0, 0])
        check_judge(self, lambda value: is_dealing(*case, value), [[(0, 0)], []], (((0, 0),), ()), [((0, 0),), []])
        case = (SHOP, EMPTY, [3, 0], [3, 0, 0])
        check_judge(self, lambda value: is_crowd(*case, value), [0], (0,), [1, 0], (0, 1))
        check_judge(self, lambda value: is_dealing(*case, value))
        case = (Store(2, [], []), [0, 0], [], [0, 0])
        check_judge(self, lambda value: is_dealing(*case, value), [], ())
        check_judge(self, lambda value: is_crowd(*case, value))

    def test_told_is_new(self):
        case = (SHOP, EMPTY, [2, 1], [2, 1, 0])
        kept = dealing(*case)
        told = dealing(*case)
        told[0].append((9, 9))
        told.append([])
        self.assertEqual(dealing(*case), kept)
        crowd(SHOP, EMPTY, [3, 0], [3, 0, 0]).append(7)
        self.assertIs(is_crowd(SHOP, EMPTY, [3, 0], [3, 0, 0], crowd(SHOP, EMPTY, [3, 0], [3, 0, 0])), True)
        told = places(SHOP, EMPTY, [2, 1, 0], 0)
        told.clear()
        self.assertEqual(len(places(SHOP, EMPTY, [2, 1, 0], 0)), 3)


if __name__ == "__main__":
    unittest.main()
