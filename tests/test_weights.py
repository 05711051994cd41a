"""Weights that stay below, their papers, bounds, and never more: promises [43] to [45]."""

import random
import unittest

from tests.helpers import (
    NO_LISTS, NO_STORES, all_lots, all_rows, all_small_stores, behind_all, check_judge, check_parameters, raised,
    second_closure, second_row_lot, some_stores, wrong_lots, wrong_weights,
)
from tests.test_deeds import rolled
from tests.test_flats import wrong_lot_lists
from tests.test_rows import wrong_rows
from twoabove.aboves import never_two_above
from twoabove.errors import InvalidLot, InvalidStore, InvalidWeights, NotBelow
from twoabove.stores import Store
from twoabove.weights import (
    bound, closed_paper, is_closed_paper, is_rising_row, lot_weight, never_more, rising_row, stays_below,
)

PLAIN = Store(3, [[0, 1], [1, 2]], [])
STORES = all_small_stores()[::2] + some_stores(3, 60, 60) + some_stores(5, 20, 61) + some_stores(8, 3, 62)


def some_weights(shelves, many, seed):
    """So many weights, and those of 0 alone, above 0 alone, below 0 alone."""
    dice = random.Random(seed)
    rolls = [[dice.randint(-3, 3) for _ in range(shelves)] for _ in range(many)]
    return rolls + [[0] * shelves, [1] * shelves, [-1] * shelves, [999999] + [-999999] * (shelves - 1)]


def weight_of(weights, lot):
    return sum(weights[shelf] for shelf in lot)


def second_is_closed(store, lots):
    """Whether lots are a closed family, from the words of [24]."""
    sets = {frozenset(lot) for lot in lots}
    grown = {lot | set(kind) for lot in sets for kind in store.deliveries()}
    grown |= {lot - set(kind) for lot in sets for kind in store.sales()}
    return frozenset() in sets and grown <= sets


class BelowTest(unittest.TestCase):
    def test_the_examples(self):
        told = [
            lot_weight(PLAIN, [1, -1, 1], [0, 2]), stays_below(PLAIN, [1, -1, 1]), stays_below(PLAIN, [1, -2, 1]),
            bound(PLAIN, [1, -2, 1]), is_rising_row(PLAIN, [1, -1, 1], [("lay", 0), ("lay", 1)]),
            rising_row(PLAIN, [1, -2, 1]), closed_paper(PLAIN, [1, -1, 1]),
        ]
        self.assertEqual(told, [2, False, True, 6, True, None, None])
        paper = [[], [0, 1], [1, 2], [0, 1, 2]]
        told = [is_closed_paper(PLAIN, [1, -2, 1], paper), never_more(PLAIN, [0], [1]), never_more(PLAIN, [0, 2], [1])]
        self.assertEqual(told, [True, True, False])

    def test_the_weight_of_each_lot(self):
        for weights in some_weights(4, 10, 63):
            for lot in all_lots(4):
                told = lot_weight(Store(4, [[0]], []), tuple(weights), lot[::-1])
                self.assertEqual(told, sum(weights[shelf] for shelf in lot))
                self.assertIs(type(told), int)
        self.assertEqual(lot_weight(PLAIN, [10 ** 40, 0, 1], (2, 0)), 10 ** 40 + 1)

    def test_exactly_if_no_flat_lot_weighs_above_nothing(self):
        for store in STORES:
            flats = second_closure(store, [])
            for weights in some_weights(store.shelves, 12, 64):
                below = all(weight_of(weights, lot) <= 0 for lot in flats)
                self.assertIs(stays_below(store, weights), below)
                self.assertIs(stays_below(store, tuple(weights)), below)

    def test_never_passed(self):
        dice = random.Random(65)
        for store in STORES:
            boards = [rolled(store, [0] * store.shelves, 60, dice)[1] for _ in range(3)]
            for weights in some_weights(store.shelves, 8, 66):
                if stays_below(store, weights):
                    highest = max(weight_of_board(weights, board) for row in boards for board in row)
                    self.assertLessEqual(highest, bound(store, weights))

    def test_never_passed_in_a_search(self):
        for store in all_small_stores() + some_stores(3, 12, 67):
            found = behind_all(store, 3)
            for weights in some_weights(store.shelves, 8, 68):
                if stays_below(store, weights):
                    highest = max(weight_of_board(weights, board) for board in found)
                    self.assertLessEqual(highest, bound(store, weights))

    def test_bounds(self):
        self.assertEqual(bound(PLAIN, [-1, 0, -5]), 0)
        self.assertEqual(bound(PLAIN, (2, -5, 3)), 15)
        self.assertEqual(bound(Store(8, [], []), [1, 2, 3, 4, 5, 6, 7, -8]), 8 * 28)
        for weights in ([1, 0, 0], [1, -1, 1], [0, 1, 0]):
            self.assertEqual(vars(raised(self, NotBelow, lambda: bound(PLAIN, weights))), {})

    def test_wrong_parameters(self):
        stores = ("store", PLAIN, InvalidStore, NO_STORES)
        weights = ("weights", (2, -5, 3), InvalidWeights, wrong_weights(3))
        for function in (stays_below, closed_paper, rising_row, bound):
            check_parameters(self, function, stores, weights)
        check_parameters(self, lot_weight, stores, weights, ("lot", (2, 0), InvalidLot, wrong_lots(3)))
        check_parameters(self, is_closed_paper, stores, weights, ("value", [[]], None, ()))
        check_parameters(self, is_rising_row, stores, weights, ("value", [("lay", 0)], None, ()))


def weight_of_board(weights, board):
    return sum(weight * pieces for weight, pieces in zip(weights, board))


class PapersTest(unittest.TestCase):
    def test_a_paper_or_a_row_never_both(self):
        for store in STORES:
            for weights in some_weights(store.shelves, 8, 69):
                paper, row = closed_paper(store, weights), rising_row(store, weights)
                self.assertIs(paper is None, row is not None)
                self.assertIs(paper is not None, stays_below(store, weights))
                if paper is not None:
                    self.assertTrue(second_is_closed(store, paper))
                    self.assertTrue(all(weight_of(weights, lot) <= 0 for lot in paper))
                    self.assertIs(is_closed_paper(store, weights, paper), True)
                else:
                    self.assertGreater(weight_of(weights, second_row_lot(store, row)), 0)
                    self.assertIs(is_rising_row(store, weights, row), True)

    def test_the_judge_of_closed_papers(self):
        for store in STORES[::4]:
            for weights in some_weights(store.shelves, 3, 70):
                flats = second_closure(store, [])
                papers = [flats, flats[::-1], flats + flats[-1:], flats + [list(range(store.shelves))]]
                papers += [flats[:at] + flats[at + 1:] for at in range(min(len(flats), 9))]
                papers += [all_lots(store.shelves), [[]], [], second_closure(store, [[0]])]
                for paper in papers:
                    good = second_is_closed(store, paper) and all(weight_of(weights, lot) <= 0 for lot in paper)
                    self.assertIs(is_closed_paper(store, weights, paper), good)
                    turned = tuple(tuple(lot[::-1]) for lot in paper[::-1])
                    self.assertIs(is_closed_paper(store, tuple(weights), turned), good)

    def test_more_than_the_flat_lots(self):
        empty = Store(2, [], [])
        self.assertIs(is_closed_paper(empty, [0, -1], all_lots(2)), True)
        self.assertIs(is_closed_paper(empty, [0, 1], all_lots(2)), False)
        self.assertIs(is_closed_paper(empty, [0, 1], [[], [0]]), True)
        self.assertIs(is_closed_paper(empty, [0, 1], [[0]]), False)

    def test_the_judge_of_rising_rows(self):
        for store in all_small_stores()[::3] + some_stores(3, 10, 71):
            for weights in some_weights(store.shelves, 3, 72):
                for row in all_rows(store, 2):
                    good = weight_of(weights, second_row_lot(store, row)) > 0
                    self.assertIs(is_rising_row(store, weights, row), good)
                    self.assertIs(is_rising_row(store, weights, tuple(row)), good)

    def test_any_value(self):
        empty = Store(3, [], [])
        check_judge(self, lambda value: is_closed_paper(empty, [1, -1, -1], value), [[]], [()], ([],), ([], ()))
        check_judge(self, lambda value: is_rising_row(PLAIN, [1, 1, 1], value), [("lay", 0)], (("lay", 1),))
        for wrong in wrong_lot_lists(3)[:-2]:
            self.assertIs(is_closed_paper(empty, [0, 0, 0], wrong), False)
        for wrong in NO_LISTS:
            self.assertIs(is_closed_paper(empty, [0, 0, 0], [[], wrong]), False)
        for wrong in wrong_rows():
            self.assertIs(is_rising_row(Store(3, [[0, 1], [1, 2]], [[1, 2]]), [1, 1, 1], wrong), False)

    def test_told_is_new(self):
        told = closed_paper(PLAIN, [1, -2, 1])
        told[1].append(2)
        told.append([])
        self.assertEqual(sorted(closed_paper(PLAIN, [1, -2, 1])), [[], [0, 1], [0, 1, 2], [1, 2]])
        rising_row(PLAIN, [1, 1, 1]).append(("off", 3))
        self.assertIs(is_rising_row(PLAIN, [1, 1, 1], rising_row(PLAIN, (1, 1, 1))), True)


class NeverMoreTest(unittest.TestCase):
    def test_from_the_flat_lots(self):
        for store in all_small_stores() + some_stores(3, 25, 73):
            flats = second_closure(store, [])
            for lot in all_lots(store.shelves):
                for other in all_lots(store.shelves):
                    good = all(len(set(lot) & set(flat)) <= len(set(other) & set(flat)) for flat in flats)
                    self.assertIs(never_more(store, lot, other), good)
                    self.assertIs(never_more(store, tuple(lot[::-1]), tuple(other)), good)

    def test_itself_none_and_the_whole(self):
        for store in STORES:
            whole = list(range(store.shelves))
            for lot in all_lots(store.shelves)[:40]:
                self.assertIs(never_more(store, lot, lot[::-1]), True)
                self.assertIs(never_more(store, [], lot), True)
                self.assertIs(never_more(store, lot, whole), True)
                self.assertIs(never_more(store, lot[1:], lot), True)

    def test_single_shelves(self):
        for store in STORES:
            for shelf in range(store.shelves):
                for other in range(store.shelves):
                    told = shelf == other or never_two_above(store, shelf, other)
                    self.assertIs(never_more(store, [shelf], [other]), told)

    def test_wrong_parameters(self):
        check_parameters(
            self, never_more,
            ("store", PLAIN, InvalidStore, NO_STORES), ("lot", (1, 0), InvalidLot, wrong_lots(3)),
            ("other", [2], InvalidLot, wrong_lots(3)),
        )


if __name__ == "__main__":
    unittest.main()
