"""Steps, rows and flat lots from behind: promises [21], [22] and [23]."""

import random
import unittest

from tests.helpers import (
    NO_LISTS, NO_STORES, all_lots, all_small_stores, check_judge, check_parameters, raised, second_closure,
    second_row_lot, some_stores, wrong_lots,
)
from twoabove.errors import InvalidLot, InvalidRow, InvalidStore
from twoabove.rows import flat_row, is_flat_row, row_lot
from twoabove.stores import Store

SHOP = Store(3, [[0, 1], [1, 2]], [[1, 2]])
WRONG_STEPS = NO_LISTS + (
    [], (), ("lay",), ("lay", 2), ("lay", -1), ("lay", True), ("lay", False), ("lay", None), ("lay", "0"), ("lay", [0]),
    ("lay", 0, 0), ("off", 1), ("off", False), ("off", 0, 0), ("put", 0), ("Lay", 0), ("", 0), (0, "lay"), (0, 0),
    ["lay", 0], ["off", 0], (["lay"], 0), (None, 0), ("layoff", 0), (b"lay", 0), (("lay", 0),), ("lay", 10 ** 29),
)


def wrong_rows():
    """No rows of the example's store."""
    inside = tuple([("lay", 0), wrong, ("off", 0)] for wrong in WRONG_STEPS)
    return NO_LISTS + inside + ([("lay", 0)] * 61, (("off", 0),) * 61, ("lay", 0), ["lay", 0], [[]], [[("lay", 0)]])


class RowTest(unittest.TestCase):
    def test_the_example(self):
        told = [
            row_lot(SHOP, [("lay", 0), ("lay", 1), ("off", 0)]), row_lot(SHOP, []),
            is_flat_row(SHOP, [0], [("lay", 0), ("off", 0)]), is_flat_row(SHOP, [0], [("lay", 0)]),
            flat_row(SHOP, [1]), is_flat_row(SHOP, [2, 1], flat_row(SHOP, [1, 2])),
            is_flat_row(SHOP, [], [["off", 0]]),
        ]
        self.assertEqual(told, [[0], [], True, False, None, True, False])

    def test_rows_of_all_lengths(self):
        dice = random.Random(3)
        for store in some_stores(4, 60, 4):
            steps = [("lay", k) for k in range(len(store.deliveries()))]
            steps += [("off", k) for k in range(len(store.sales()))]
            for many in (0, 1, 2, 5, 60):
                row = [dice.choice(steps) for _ in range(many)] if steps else []
                lot = second_row_lot(store, row)
                self.assertEqual(row_lot(store, row), lot)
                self.assertEqual(row_lot(store, tuple(row)), lot)
                for other in all_lots(4):
                    self.assertIs(is_flat_row(store, tuple(other[::-1]), row), other == lot)
                    self.assertIs(is_flat_row(store, other, tuple(row)), other == lot)

    def test_sixty_and_sixty_one_steps(self):
        sixty = [("lay", 0), ("off", 0)] * 30
        self.assertEqual(row_lot(SHOP, sixty), [0])
        self.assertIs(is_flat_row(SHOP, [0], sixty), True)
        more = sixty + [("off", 0)]
        self.assertIs(raised(self, InvalidRow, lambda: row_lot(SHOP, more)).value, more)
        self.assertIs(is_flat_row(SHOP, [0], more), False)

    def test_wrong_rows(self):
        check_parameters(
            self, row_lot,
            ("store", SHOP, InvalidStore, NO_STORES), ("row", (("lay", 1), ("off", 0)), InvalidRow, wrong_rows()),
        )
        for wrong in wrong_rows():
            for lot in all_lots(3):
                self.assertIs(is_flat_row(SHOP, lot, wrong), False, repr(wrong))
        raised(self, InvalidRow, lambda: row_lot(Store(2, [], []), [("lay", 0)]))
        raised(self, InvalidRow, lambda: row_lot(Store(2, [[0]], []), [("off", 0)]))
        raised(self, InvalidRow, lambda: row_lot(Store(2, [], [[0]]), [("lay", 0)]))

    def test_a_judge_of_any_value(self):
        check_judge(self, lambda value: is_flat_row(SHOP, [], value), [], (), [("off", 0)], (("off", 0),))
        check_judge(self, lambda value: is_flat_row(SHOP, [1, 0], value), [("lay", 0)], (("off", 0), ("lay", 0)))
        check_parameters(
            self, is_flat_row,
            ("store", SHOP, InvalidStore, NO_STORES), ("lot", (2, 1), InvalidLot, wrong_lots(3)),
            ("value", [("lay", 1)], None, ()),
        )

    def test_told_is_new(self):
        row = [("lay", 0)]
        row_lot(SHOP, row).append(2)
        self.assertEqual((row, row_lot(SHOP, row), SHOP.deliveries()), ([("lay", 0)], [0, 1], [[0, 1], [1, 2]]))


class FlatRowTest(unittest.TestCase):
    def check_all_lots(self, store):
        flats = second_closure(store, [])
        for lot in all_lots(store.shelves):
            row = flat_row(store, lot)
            self.assertEqual(row is not None, lot in flats, (store.deliveries(), store.sales(), lot))
            self.assertEqual(flat_row(store, tuple(lot[::-1])), row)
            if row is not None:
                self.assertIs(type(row), list)
                self.assertLessEqual(len(row), 60)
                self.assertEqual(second_row_lot(store, row), lot)
                self.assertEqual(row_lot(store, row), lot)
                self.assertIs(is_flat_row(store, lot, row), True)

    def test_all_lots_of_all_stores_of_two(self):
        for store in all_small_stores():
            self.check_all_lots(store)

    def test_all_lots_of_greater_stores(self):
        for shelves, many in ((3, 150), (4, 80), (5, 30), (8, 4)):
            for store in some_stores(shelves, many, shelves):
                self.check_all_lots(store)

    def test_the_empty_lot_and_each_delivery_kind_are_flat(self):
        for store in some_stores(5, 40, 9):
            for lot in [[]] + store.deliveries():
                self.assertIs(is_flat_row(store, lot, flat_row(store, lot)), True)

    def test_told_is_new(self):
        flat_row(SHOP, [0]).clear()
        self.assertIs(is_flat_row(SHOP, [0], flat_row(SHOP, [0])), True)

    def test_wrong_parameters(self):
        check_parameters(
            self, flat_row,
            ("store", SHOP, InvalidStore, NO_STORES), ("lot", (2, 0, 1), InvalidLot, wrong_lots(3)),
        )


if __name__ == "__main__":
    unittest.main()
