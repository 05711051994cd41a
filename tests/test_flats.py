"""Flat lots, closed families and parted stores: promises [22], [24] and [25]."""

import random
import unittest

from tests.helpers import (
    NO_LISTS, NO_STORES, all_lots, all_small_stores, check_judge, check_parameters, raised, second_closure,
    some_stores, wrong_lots,
)
from twoabove.errors import InvalidLot, InvalidLots, InvalidStore, UnlikeShelves
from twoabove.flats import closure, flat_lots, flat_parting, is_closed, is_flat
from twoabove.rows import flat_row
from twoabove.stores import Store

SHOP = Store(3, [[0, 1], [1, 2]], [[1, 2]])
ALL = Store(8, [[shelf] for shelf in range(8)], [])


def wrong_lot_lists(shelves):
    """No lists of at most 256 lots."""
    return NO_LISTS + tuple([[0], wrong] for wrong in wrong_lots(shelves)) + ([0], [[[0]]], [[]] * 257, ((0,),) * 257)


class FlatLotsTest(unittest.TestCase):
    def test_the_example(self):
        other = Store(3, [[0, 1], [1, 2], [0, 1, 2]], [[1, 2]])
        told = [
            flat_lots(SHOP), is_flat(SHOP, [2]), closure(SHOP, [[2]]) == sorted(flat_lots(SHOP) + [[2]]),
            is_closed(SHOP, flat_lots(SHOP)), is_closed(SHOP, [[], [0]]), is_closed(Store(2, [], []), [[], ()]),
            flat_parting(SHOP, other),
        ]
        flats = [[], [0], [0, 1], [0, 1, 2], [1, 2]]
        self.assertEqual(told, [flats, False, True, True, False, True, None])

    def check_store(self, store):
        flats = flat_lots(store)
        self.assertEqual(flats, second_closure(store, []))
        self.assertIs(is_closed(store, flats), True)
        for lot in all_lots(store.shelves):
            self.assertIs(is_flat(store, lot), lot in flats)
            self.assertIs(is_flat(store, tuple(lot[::-1])), lot in flats)
            self.assertIs(flat_row(store, lot) is not None, lot in flats)

    def test_the_least_closed_family(self):
        for store in all_small_stores():
            self.check_store(store)
        for shelves, many in ((3, 100), (4, 60), (6, 10), (8, 2)):
            for store in some_stores(shelves, many, 10 + shelves):
                self.check_store(store)

    def test_no_kinds_and_all_lots(self):
        self.assertEqual(flat_lots(Store(2, [], [])), [[]])
        self.assertEqual(flat_lots(Store(3, [], [[0], [1, 2]])), [[]])
        self.assertEqual(flat_lots(ALL), sorted(all_lots(8)))

    def test_wrong_parameters(self):
        check_parameters(self, flat_lots, ("store", SHOP, InvalidStore, NO_STORES))
        check_parameters(
            self, is_flat, ("store", SHOP, InvalidStore, NO_STORES), ("lot", (2, 1), InvalidLot, wrong_lots(3)),
        )

    def test_told_is_new(self):
        told = flat_lots(SHOP)
        told[2].append(7)
        told.clear()
        self.assertEqual(flat_lots(SHOP), [[], [0], [0, 1], [0, 1, 2], [1, 2]])
        self.assertEqual(SHOP, Store(3, [[0, 1], [1, 2]], [[1, 2]]))


class ClosureTest(unittest.TestCase):
    def test_of_several_lots(self):
        dice = random.Random(5)
        for store in some_stores(4, 60, 6):
            for many in (0, 1, 2, 5):
                lots = dice.sample(all_lots(4), many)
                told = second_closure(store, lots)
                self.assertEqual(closure(store, lots), told)
                self.assertEqual(closure(store, tuple(tuple(lot[::-1]) for lot in lots + lots[:1])), told)
                self.assertIs(is_closed(store, told), True)

    def test_of_none(self):
        self.assertEqual(closure(SHOP, []), flat_lots(SHOP))
        self.assertEqual(closure(SHOP, ()), flat_lots(SHOP))
        self.assertEqual(closure(SHOP, [[]]), flat_lots(SHOP))

    def test_of_256_and_257_lots(self):
        self.assertEqual(closure(ALL, all_lots(8)), sorted(all_lots(8)))
        self.assertEqual(closure(SHOP, [[2]] * 256), closure(SHOP, [[2]]))
        more = all_lots(8) + [[]]
        self.assertIs(raised(self, InvalidLots, lambda: closure(ALL, more)).value, more)

    def test_wrong_parameters(self):
        check_parameters(
            self, closure,
            ("store", SHOP, InvalidStore, NO_STORES), ("lots", [[2], (1, 0), [2]], InvalidLots, wrong_lot_lists(3)),
        )

    def test_told_is_new(self):
        lots = [[2], [0, 2]]
        told = closure(SHOP, lots)
        for lot in told:
            lot.append(9)
        self.assertEqual(lots, [[2], [0, 2]])
        self.assertEqual(closure(SHOP, lots), second_closure(SHOP, lots))


class ClosedTest(unittest.TestCase):
    def test_all_families_of_two_shelves(self):
        lots = all_lots(2)
        for store in all_small_stores():
            for picked in range(16):
                family = [lot for at, lot in enumerate(lots) if picked >> at & 1]
                told = family != [] and second_closure(store, family) == sorted(family)
                self.assertIs(is_closed(store, family), told)

    def test_left_out_put_in_twice_turned_about_and_as_tuples(self):
        for store in some_stores(4, 40, 7) + [SHOP]:
            family = closure(store, [[3, 1]] if store.shelves == 4 else [])
            self.assertIs(is_closed(store, family + family), True)
            self.assertIs(is_closed(store, family[::-1]), True)
            self.assertIs(is_closed(store, tuple(tuple(lot[::-1]) for lot in family)), True)
            for at in range(len(family)):
                rest = family[:at] + family[at + 1:]
                self.assertIs(is_closed(store, rest), rest != [] and second_closure(store, rest) == rest)
            self.assertIs(is_closed(store, family[1:]), False)

    def test_the_empty_lot_alone(self):
        self.assertIs(is_closed(Store(2, [], [[0]]), [[]]), True)
        self.assertIs(is_closed(Store(2, [], [[0]]), []), False)
        self.assertIs(is_closed(Store(2, [], []), [[0]]), False)
        self.assertIs(is_closed(Store(2, [[0]], []), [[]]), False)
        self.assertIs(is_closed(Store(2, [], [[0]]), [[], [0, 1]]), False)
        self.assertIs(is_closed(Store(2, [], [[0]]), [[], [0, 1], [1]]), True)

    def test_more_than_256_lots(self):
        self.assertIs(is_closed(ALL, all_lots(8) + all_lots(8)[::-1]), True)

    def test_a_judge_of_any_value(self):
        check_judge(self, lambda value: is_closed(SHOP, value), flat_lots(SHOP))
        for wrong in wrong_lots(3):
            self.assertIs(is_closed(SHOP, flat_lots(SHOP) + [wrong]), False, repr(wrong))
        check_parameters(self, is_closed, ("store", SHOP, InvalidStore, NO_STORES), ("value", [[]], None, ()))


class PartingTest(unittest.TestCase):
    def check_pair(self, store, other):
        lot = flat_parting(store, other)
        lots, others = second_closure(store, []), second_closure(other, [])
        self.assertEqual(lot is None, lots == others)
        if lot is not None:
            self.assertIs(type(lot), list)
            self.assertEqual(lot, sorted(lot))
            self.assertEqual([lot in lots, lot in others].count(True), 1)
        self.assertEqual(flat_parting(store, other), lot)

    def test_all_pairs_of_stores(self):
        stores = all_small_stores()
        for store in stores:
            for other in stores:
                self.check_pair(store, other)
        stores = some_stores(3, 25, 8)
        for store in stores:
            for other in stores:
                self.check_pair(store, other)

    def test_told_is_new(self):
        store, other = Store(2, [[0, 1]], []), Store(2, [], [])
        flat_parting(store, other).clear()
        self.assertEqual((flat_parting(store, other), store.deliveries()), ([0, 1], [[0, 1]]))

    def test_unlike_shelves(self):
        raised(self, UnlikeShelves, lambda: flat_parting(Store(2, [], []), Store(3, [], [])))
        raised(self, UnlikeShelves, lambda: flat_parting(Store(8, [], []), Store(7, [], [])))
        check_parameters(
            self, flat_parting,
            ("store", SHOP, InvalidStore, NO_STORES), ("other", Store(3, [[0]], []), InvalidStore, NO_STORES),
        )


if __name__ == "__main__":
    unittest.main()
