"""Rows that are blown up: promise [33]."""

import random
import unittest

from tests.helpers import NO_COUNTS, NO_STORES, check_parameters, raised, second_row_lot, some_stores
from tests.test_rows import wrong_rows
from twoabove.deeds import boards, played
from twoabove.errors import InvalidHeight, InvalidRow, InvalidStore, TooMany
from twoabove.flats import flat_lots
from twoabove.histories import blown
from twoabove.rows import flat_row
from twoabove.stores import Store

SHOP = Store(3, [[0, 1], [1, 2]], [[1, 2]])


def changes_of(store, row):
    """How many shelves each step of the row lays on or takes off."""
    lots = [second_row_lot(store, row[:many]) for many in range(len(row) + 1)]
    return [len(set(lot) ^ set(behind)) for lot, behind in zip(lots, lots[1:])]


class BlownTest(unittest.TestCase):
    def test_the_example(self):
        told = [
            played(SHOP, [0, 0, 0], blown(SHOP, [("lay", 0), ("off", 0)], 3)),
            len(blown(SHOP, [("lay", 0), ("lay", 1), ("off", 0)], 2)), blown(SHOP, [("lay", 1)], 0),
        ]
        self.assertEqual(told, [[3, 0, 0], 10, []])

    def check_blown(self, store, row, height):
        """The history is by the custom, and behind the deeds of each step just its lot holds the height."""
        history = blown(store, row, height)
        self.assertIs(type(history), list)
        self.assertEqual(len(history), height * sum(changes_of(store, row)))
        row_boards = boards(store, [0] * store.shelves, history)
        at = 0
        for many, (step, changed) in enumerate(zip(row, changes_of(store, row)), 1):
            word = "put" if step[0] == "lay" else "take"
            for deed in history[at:at + height * changed]:
                self.assertEqual(deed[:2], (word, step[1]))
            at += height * changed
            lot = second_row_lot(store, row[:many])
            self.assertEqual(row_boards[at], [height if shelf in lot else 0 for shelf in range(store.shelves)])
        self.assertEqual(at, len(history))
        self.assertEqual(blown(store, tuple(row), height), history)

    def test_step_by_step(self):
        dice = random.Random(15)
        for store in some_stores(4, 80, 16):
            steps = [("lay", k) for k in range(len(store.deliveries()))]
            steps += [("off", k) for k in range(len(store.sales()))]
            for height in (0, 1, 2, 9):
                row = [dice.choice(steps) for _ in range(dice.randint(0, 10))] if steps else []
                if height * sum(changes_of(store, row)) <= 200:
                    self.check_blown(store, row, height)

    def test_each_flat_lot_can_stand_at_any_height(self):
        for store in some_stores(4, 20, 17):
            for lot in flat_lots(store):
                for height in (0, 1, 5, 9):
                    self.check_blown(store, flat_row(store, lot), height)

    def test_more_than_two_hundred_deeds(self):
        pair = Store(2, [[0, 1]], [[0, 1]])
        turns = [("lay", 0), ("off", 0)]
        self.assertEqual(len(blown(pair, turns * 25, 2)), 200)
        self.check_blown(pair, turns * 25, 2)
        for row, height in ((turns * 25 + turns[:1], 2), (turns * 30, 9), (turns * 26, 2)):
            error = raised(self, TooMany, lambda: blown(pair, row, height))
            self.assertEqual((error.what, error.limit), ("deeds", 200))
        self.assertEqual(blown(pair, turns * 30, 0), [])
        odd = Store(8, [[0], list(range(8))], [[0]])
        row = [("lay", 1)] * 2 + [("off", 0), ("lay", 0)] * 7
        self.assertEqual(len(blown(odd, row, 9)), 198)
        raised(self, TooMany, lambda: blown(odd, row + [("off", 0)], 9))

    def test_steps_that_change_nothing(self):
        self.assertEqual(blown(SHOP, [("off", 0), ("off", 0)], 9), [])
        self.assertEqual(len(blown(SHOP, [("lay", 0)] * 60, 9)), 18)

    def test_wrong_parameters(self):
        check_parameters(
            self, blown,
            ("store", SHOP, InvalidStore, NO_STORES), ("row", [("lay", 0), ("off", 0)], InvalidRow, wrong_rows()),
            ("height", 9, InvalidHeight, NO_COUNTS + (10, 11, 10 ** 29)),
        )
        long = [("lay", 0), ("off", 0)] * 30
        raised(self, InvalidHeight, lambda: blown(Store(2, [[0, 1]], [[0, 1]]), long, 10))

    def test_told_is_new(self):
        row = [("lay", 0)]
        blown(SHOP, row, 2).clear()
        self.assertEqual((row, len(blown(SHOP, row, 2))), ([("lay", 0)], 4))


if __name__ == "__main__":
    unittest.main()
