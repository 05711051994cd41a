"""The whole program: the overview [1] and the guarantees [4], on drawn stores, and all conventions over all files."""

import random
import unittest
from itertools import product

from tests.helpers import (
    all_boards, changed_at, come_from, second_ends, second_puts, second_takes, some_stores,
)
from tests.test_claims import drawn_claims
from twoabove.aboves import above_row, is_above_row, never_two_above
from twoabove.boards import falling_lots
from twoabove.claims import contrary, is_paper_of, is_true, paper_of, words
from twoabove.deeds import played
from twoabove.ends import all_ends
from twoabove.flats import flat_lots
from twoabove.histories import blown
from twoabove.looks import comes, way
from twoabove.rows import row_lot
from twoabove.sandwiches import board_sandwich, is_sandwich
from twoabove.stores import Store
from twoabove.tolds import can_end, crowd, place_table
from twoabove.weights import bound, rising_row, stays_below

SHOP = Store(3, [[0, 1], [1, 2]], [])


def walked(dice, store, many):
    """The boards behind drawn deeds by the custom, from the empty one; a run of one kind is likely."""
    board, boards, way_up = (0,) * store.shelves, [], True
    for _ in range(many):
        if dice.random() < 0.15:
            way_up = not way_up
        behind = second_puts(store, board, 60) if way_up else second_takes(store, board)
        if behind:
            board = dice.choice(behind)
        boards.append(list(board))
    return boards


class OverviewTest(unittest.TestCase):
    def test_the_example(self):
        self.assertIs(never_two_above(SHOP, 0, 1), True)
        self.assertIs(never_two_above(SHOP, 1, 0), False)
        row = above_row(SHOP, 1, 0)
        for height in range(10):
            board = played(SHOP, [0, 0, 0], blown(SHOP, row, height))
            self.assertEqual(board[1] - board[0], height)
        self.assertIs(comes(SHOP, [0, 0, 0], [2, 1, 0]), True)
        self.assertIs(comes(SHOP, [0, 0, 0], [3, 1, 0]), False)
        self.assertEqual(played(SHOP, [0, 0, 0], way(SHOP, [0, 0, 0], [2, 1, 0])), [2, 1, 0])


class FlatLotsTest(unittest.TestCase):
    def test_what_stands_lies_between_flat_lots(self):
        dice = random.Random(210)
        for store in some_stores(4, 40, 211) + some_stores(6, 15, 212):
            flats = flat_lots(store)
            for board in walked(dice, store, 60)[::6]:
                self.assertIs(is_sandwich(store, board, board_sandwich(store, board)), True)
                lots = [list(range(store.shelves))] + falling_lots(store, board)
                for lower, higher in zip(lots, lots[1:]):
                    self.assertTrue(any(set(higher) <= set(lot) <= set(lower) for lot in flats))

    def test_weighted_sums(self):
        dice = random.Random(213)
        for store in some_stores(4, 60, 214):
            boards = walked(dice, store, 80)
            for _ in range(4):
                weights = [dice.randint(-2, 2) for _ in range(4)]
                sums = [sum(weight * held for weight, held in zip(weights, board)) for board in boards]
                if stays_below(store, weights):
                    self.assertLessEqual(max(sums), bound(store, weights))
                    continue
                row = rising_row(store, weights)
                gain = sum(weights[shelf] for shelf in row_lot(store, row))
                self.assertGreater(gain, 0)
                for height in (1, 4, 9):
                    board = played(store, [0] * 4, blown(store, row, height))
                    self.assertEqual(sum(weight * held for weight, held in zip(weights, board)), height * gain)

    def test_two_above(self):
        dice = random.Random(215)
        for store in some_stores(4, 60, 216):
            boards = walked(dice, store, 120)
            for shelf, other in product(range(4), repeat=2):
                if shelf == other:
                    continue
                most = max(board[shelf] - board[other] for board in boards)
                if never_two_above(store, shelf, other):
                    self.assertLessEqual(most, 1)
                else:
                    row = above_row(store, shelf, other)
                    self.assertIs(is_above_row(store, shelf, other, row), True)
                    board = played(store, [0] * 4, blown(store, row, 9))
                    self.assertEqual((board[shelf], board[other]), (9, 0))


class LooksTest(unittest.TestCase):
    def test_one_look(self):
        for store in some_stores(4, 15, 217):
            found = come_from(store, [0, 1, 0, 2], 3)
            for wished in all_boards(4, 3):
                kinds = store.deliveries()
                gained = [shelf for shelf in range(4) if wished[shelf] > (0, 1, 0, 2)[shelf]]
                looked = all(wished[shelf] >= (0, 1, 0, 2)[shelf] for shelf in range(4)) and all(
                    any(shelf in kind and min(wished[one] for one in kind) > wished[shelf] - 2 for kind in kinds)
                    for shelf in gained
                )
                self.assertIs(tuple(wished) in found, looked)
                self.assertIs(comes(store, [0, 1, 0, 2], wished), looked)

    def test_places(self):
        dice = random.Random(218)
        for store in some_stores(4, 40, 219):
            counts = [dice.randint(0, 2) for _ in store.deliveries()]
            board = [dice.randint(0, 1) for _ in range(4)]
            found = second_ends(store, board, counts)
            if len(found) <= 200 and sum(counts) <= 12:
                self.assertEqual(all_ends(store, board, counts), found)
            for wished in found[:5]:
                moved = changed_at(changed_at(wished, dice.randrange(4), 1), dice.randrange(4), -1)
                for one in (wished, list(moved)):
                    if any(more < held for more, held in zip(one, board)):
                        continue
                    self.assertIs(can_end(store, board, counts, one), one in found)
                    lot = crowd(store, board, counts, one)
                    if lot is not None:
                        table = place_table(store, board, one)
                        places = {place for position in lot for place in table[position]}
                        self.assertGreater(sum(counts[position] for position in lot), len(places))


class PapersTest(unittest.TestCase):
    def test_each_no_and_each_yes_has_one(self):
        dice = random.Random(220)
        for store in some_stores(4, 80, 221) + some_stores(8, 10, 222):
            claims = drawn_claims(dice, store)
            self.assertTrue(all(claim[0] in row for claim, row in zip(claims, words())))
            for claim in claims:
                good, wrong = (claim, contrary(claim)) if is_true(claim) else (contrary(claim), claim)
                self.assertIs(is_true(wrong), False)
                self.assertIs(paper_of(wrong), None)
                if good[0] in ("never", "lets"):
                    self.assertIs(paper_of(good), None)
                else:
                    self.assertIs(is_paper_of(good, paper_of(good)), True)
                    self.assertIs(is_paper_of(wrong, paper_of(good)), False)
                    self.assertLessEqual(len(paper_of(good)), 400)


if __name__ == "__main__":
    unittest.main()
