"""Stores: promises [2], [5], [12] and [13]."""

import unittest

from tests.helpers import (
    ANY_VALUES, NO_COUNTS, NO_LISTS, NO_STORES, all_kinds, all_small_stores, check_parameters, raised, some_stores,
    wrong_kinds, wrong_orders, wrong_positions,
)
from twoabove.errors import (
    InvalidDeliveries, InvalidKind, InvalidOrder, InvalidPosition, InvalidSales, InvalidShelves, InvalidStore, TooMany,
)
from twoabove.stores import (
    Store, beside, named, renamed, with_delivery, with_sale, without_delivery, without_sale,
)

EIGHT = [[0], [1], [2], [3], [0, 1], [0, 2], [0, 3], [1, 2]]


def wrong_kind_lists(shelves):
    """No lists of at most eight kinds."""
    inside = tuple([[0], wrong] for wrong in wrong_kinds(shelves))
    return NO_LISTS + inside + ([[]], [()], [0], [[0]] * 9, ([0],) * 9, [[0], 0], [[[0]]])


def example():
    return Store(3, [[1, 2], (1, 0), [2, 1]], [[2]])


class StoreTest(unittest.TestCase):
    def test_the_examples(self):
        shop = example()
        told = [
            shop.shelves, shop.deliveries(), shop.sales(), named(Store(3, [[2]], [])),
            with_delivery(shop, [0, 1]) == shop, without_delivery(shop, 0).deliveries(),
            renamed(shop, [2, 1, 0]).sales(), with_sale(shop, [0]).sales(),
        ]
        self.assertEqual(told, [3, [[0, 1], [1, 2]], [[2]], [2], True, [[1, 2]], [[0]], [[0], [2]]])
        self.assertEqual(beside(shop, Store(2, [[0, 1]], [])).deliveries(), [[0, 1], [1, 2], [3, 4]])

    def test_two_and_eight_shelves(self):
        self.assertEqual(Store(2, [], []).shelves, 2)
        self.assertEqual(Store(8, [[7]], [[0, 7]]).shelves, 8)
        for wrong in (0, 1, 9):
            self.assertEqual(raised(self, InvalidShelves, lambda: Store(wrong, [], [])).value, wrong)

    def test_kinds_are_told_rising_once_and_sorted(self):
        shop = Store(4, [[3, 1], (2,), [1, 3], [0, 3, 2], [2]], ((1, 0), [0]))
        self.assertEqual(shop.deliveries(), [[0, 2, 3], [1, 3], [2]])
        self.assertEqual(shop.sales(), [[0], [0, 1]])
        self.assertEqual(Store(2, (), ()).deliveries(), [])
        self.assertEqual(Store(2, (), ()).sales(), [])

    def test_like_kinds_count_each_when_passed(self):
        self.assertEqual(Store(2, [[0]] * 8, [[0, 1]] * 8).deliveries(), [[0]])
        self.assertEqual(Store(4, EIGHT, EIGHT).deliveries(), sorted(EIGHT))
        for ninth in ([0], [2, 3], (1, 0)):
            nine = EIGHT + [ninth]
            self.assertIs(raised(self, InvalidDeliveries, lambda: Store(4, nine, [])).value, nine)
            self.assertIs(raised(self, InvalidSales, lambda: Store(4, [], nine)).value, nine)

    def test_wrong_parameters(self):
        for shelves in (2, 3, 8):
            wrongs = wrong_kind_lists(shelves)
            check_parameters(
                self, Store,
                ("shelves", shelves, InvalidShelves, NO_COUNTS + (0, 1, 9, 10 ** 29)),
                ("deliveries", [[1, 0], (0,)], InvalidDeliveries, wrongs),
                ("sales", ([1],), InvalidSales, wrongs),
            )

    def test_what_was_passed_and_told_is_not_kept(self):
        deliveries, sales = [[0, 1], [2]], [[1]]
        shop = Store(3, deliveries, sales)
        deliveries[0].append(2)
        deliveries.append([0])
        sales.clear()
        shop.deliveries()[0].append(2)
        shop.deliveries().append([0])
        shop.sales()[0].clear()
        self.assertEqual(shop, Store(3, [[0, 1], [2]], [[1]]))
        self.assertEqual((shop.deliveries(), shop.sales()), ([[0, 1], [2]], [[1]]))

    def test_told_are_lists(self):
        shop = Store(3, ((0, 1), (2,)), ((1,),))
        for told in (shop.deliveries(), shop.sales()):
            self.assertIs(type(told), list)
            self.assertTrue(all(type(kind) is list for kind in told))

    def test_shelves_cannot_be_assigned(self):
        with self.assertRaises(AttributeError):
            example().shelves = 4


class EqualTest(unittest.TestCase):
    def test_by_shelves_and_told_kinds_alone(self):
        shop = Store(3, [[0, 1], [2]], [[1]])
        self.assertTrue(shop == Store(3, ((2,), (1, 0), (2,)), [[1], [1]]))
        self.assertFalse(shop != Store(3, ((2,), (1, 0), (2,)), [[1], [1]]))
        unlike = [
            Store(4, [[0, 1], [2]], [[1]]), Store(3, [[0, 1]], [[1]]), Store(3, [[0, 1], [2]], []),
            Store(3, [[1]], [[0, 1], [2]]), Store(3, [[0, 1], [1]], [[1]]),
        ]
        for other in unlike:
            self.assertFalse(shop == other)
            self.assertTrue(shop != other)

    def test_all_small_stores_are_unlike(self):
        stores = all_small_stores()
        for at, store in enumerate(stores):
            self.assertEqual([other == store for other in stores], [k == at for k in range(len(stores))])

    def test_not_equal_to_other_values(self):
        shop = Store(2, [[0]], [[1]])
        for value in ANY_VALUES + ((2, ((0,),), ((1,),)), [2, [[0]], [[1]]]):
            self.assertIs(type(shop == value), bool)
            self.assertFalse(shop == value)
            self.assertFalse(value == shop)
            self.assertTrue(shop != value)


class FurtherKindTest(unittest.TestCase):
    def test_with_a_kind(self):
        shop = Store(3, [[0, 1]], [[2]])
        self.assertEqual(with_delivery(shop, (2, 0)), Store(3, [[0, 1], [0, 2]], [[2]]))
        self.assertEqual(with_sale(shop, (1,)), Store(3, [[0, 1]], [[1], [2]]))
        self.assertEqual(with_delivery(shop, (1, 0)), shop)
        self.assertEqual(with_sale(shop, [2]), shop)
        self.assertEqual(with_sale(shop, [0, 1]), Store(3, [[0, 1]], [[2], [0, 1]]))
        self.assertEqual(shop, Store(3, [[0, 1]], [[2]]))

    def test_what_was_passed_and_told_is_not_kept(self):
        shop, kind = Store(3, [[0, 1]], [[2]]), [2, 0]
        both = with_sale(with_delivery(shop, kind), kind)
        self.assertEqual(kind, [2, 0])
        kind.append(1)
        both.deliveries()[1].append(1)
        self.assertEqual(both, Store(3, [[0, 1], [0, 2]], [[0, 2], [2]]))
        self.assertEqual(shop, Store(3, [[0, 1]], [[2]]))

    def test_the_ninth_kind(self):
        full = Store(4, EIGHT, EIGHT)
        seven = Store(4, EIGHT[:7], EIGHT[:7])
        for function in (with_delivery, with_sale):
            error = raised(self, TooMany, lambda: function(full, [2, 3]))
            self.assertEqual((error.what, error.limit), ("kinds", 8))
            self.assertEqual(function(full, (2, 1)), full)
        self.assertEqual(with_delivery(seven, EIGHT[7]), Store(4, EIGHT, EIGHT[:7]))
        self.assertEqual(with_sale(seven, EIGHT[7]), Store(4, EIGHT[:7], EIGHT))
        self.assertEqual(len(with_delivery(Store(4, [], EIGHT), [2, 3]).deliveries()), 1)
        self.assertEqual(len(with_sale(Store(4, EIGHT, []), [2, 3]).sales()), 1)

    def test_wrong_kinds_come_ahead_of_too_many(self):
        full = Store(4, EIGHT, EIGHT)
        for function in (with_delivery, with_sale):
            check_parameters(
                self, function,
                ("store", full, InvalidStore, NO_STORES),
                ("kind", (3,), InvalidKind, wrong_kinds(4)),
            )


class LessKindTest(unittest.TestCase):
    def test_positions_at_both_ends(self):
        shop = Store(3, [[0], [1], [2]], [[0, 1], [0, 2], [1, 2], [2]])
        for position in range(3):
            rest = [kind for at, kind in enumerate(shop.deliveries()) if at != position]
            self.assertEqual(without_delivery(shop, position), Store(3, rest, shop.sales()))
        for position in range(4):
            rest = [kind for at, kind in enumerate(shop.sales()) if at != position]
            self.assertEqual(without_sale(shop, position), Store(3, shop.deliveries(), rest))
        self.assertEqual(len(shop.deliveries()) + len(shop.sales()), 7)

    def test_wrong_parameters(self):
        shop = Store(3, [[0]], [[0, 1], [2]])
        check_parameters(
            self, without_delivery,
            ("store", shop, InvalidStore, NO_STORES), ("position", 0, InvalidPosition, wrong_positions(1)),
        )
        check_parameters(
            self, without_sale,
            ("store", shop, InvalidStore, NO_STORES), ("position", 1, InvalidPosition, wrong_positions(2)),
        )
        bare = Store(2, [], [])
        for function in (without_delivery, without_sale):
            self.assertEqual(raised(self, InvalidPosition, lambda: function(bare, 0)).value, 0)


class RenamedTest(unittest.TestCase):
    def test_the_shelf_becomes_what_stands_at_it(self):
        shop = Store(4, [[0, 1], [3]], [[1, 2], [0]])
        self.assertEqual(renamed(shop, (2, 0, 3, 1)), Store(4, [[2, 0], [1]], [[0, 3], [2]]))
        self.assertEqual(renamed(shop, [0, 1, 2, 3]), shop)
        self.assertEqual(renamed(renamed(shop, [1, 2, 3, 0]), [3, 0, 1, 2]), shop)

    def test_wrong_parameters(self):
        check_parameters(
            self, renamed,
            ("store", example(), InvalidStore, NO_STORES), ("order", (2, 0, 1), InvalidOrder, wrong_orders(3)),
        )
        check_parameters(
            self, renamed,
            ("store", Store(2, [], []), InvalidStore, NO_STORES), ("order", [1, 0], InvalidOrder, wrong_orders(2)),
        )


class BesideTest(unittest.TestCase):
    def test_shelves_are_raised_by_its_own(self):
        shop, other = Store(3, [[2]], [[0, 1]]), Store(5, [[0, 4], [1]], [[2], [3]])
        self.assertEqual(beside(shop, other), Store(8, [[2], [3, 7], [4]], [[0, 1], [5], [6]]))
        self.assertEqual(beside(other, shop), Store(8, [[0, 4], [1], [7]], [[2], [3], [5, 6]]))
        self.assertEqual(beside(shop, shop), Store(6, [[2], [5]], [[0, 1], [3, 4]]))
        self.assertEqual((shop, other), (Store(3, [[2]], [[0, 1]]), Store(5, [[0, 4], [1]], [[2], [3]])))

    def test_shelves_that_add_up_to_nine(self):
        error = raised(self, TooMany, lambda: beside(Store(4, [], []), Store(5, [], [])))
        self.assertEqual((error.what, error.limit), ("shelves", 8))
        self.assertEqual(beside(Store(4, [], []), Store(4, [], [])), Store(8, [], []))

    def test_kinds_that_add_up_to_nine(self):
        one, five, full = Store(4, [[0]], [[0]]), EIGHT[:5], Store(4, EIGHT, EIGHT)
        self.assertEqual(len(beside(full, Store(4, [], [])).deliveries()), 8)
        for other in (one, Store(4, [[0]], []), Store(4, [], [[0]])):
            error = raised(self, TooMany, lambda: beside(full, other))
            self.assertEqual((error.what, error.limit), ("kinds", 8))
            error = raised(self, TooMany, lambda: beside(other, full))
            self.assertEqual((error.what, error.limit), ("kinds", 8))
        both = beside(Store(4, five, EIGHT[:3]), Store(4, EIGHT[:3], five))
        self.assertEqual((len(both.deliveries()), len(both.sales())), (8, 8))
        many = Store(4, five, []), Store(4, [], five)
        self.assertEqual((len(beside(*many).deliveries()), len(beside(*many).sales())), (5, 5))

    def test_too_many_shelves_come_ahead_of_too_many_kinds(self):
        error = raised(self, TooMany, lambda: beside(Store(5, EIGHT, []), Store(4, [[0]], [])))
        self.assertEqual((error.what, error.limit), ("shelves", 8))

    def test_wrong_parameters(self):
        check_parameters(
            self, beside,
            ("store", example(), InvalidStore, NO_STORES), ("other", Store(2, [], []), InvalidStore, NO_STORES),
        )
        raised(self, InvalidStore, lambda: beside(Store(8, [], []), None))


class NamedTest(unittest.TestCase):
    def test_whom_some_delivery_kind_holds(self):
        self.assertEqual(named(Store(3, [], [[0, 1, 2]])), [])
        self.assertEqual(named(Store(8, [[7, 0], [3]], [[1]])), [0, 3, 7])
        for store in some_stores(5, 50, 1):
            told = [shelf for shelf in range(5) if any(shelf in kind for kind in store.deliveries())]
            self.assertEqual(named(store), told)

    def test_told_is_new(self):
        shop = example()
        named(shop).append(7)
        self.assertEqual(named(shop), [0, 1, 2])

    def test_wrong_parameters(self):
        check_parameters(self, named, ("store", example(), InvalidStore, NO_STORES))


class SmallStoresTest(unittest.TestCase):
    def test_with_and_without_lead_back(self):
        for store in all_small_stores():
            for kind in all_kinds(2):
                if kind in store.deliveries():
                    self.assertEqual(with_delivery(store, kind), store)
                else:
                    more = with_delivery(store, kind)
                    self.assertEqual(without_delivery(more, more.deliveries().index(kind)), store)
                if kind not in store.sales():
                    more = with_sale(store, kind)
                    self.assertEqual(without_sale(more, more.sales().index(kind)), store)


if __name__ == "__main__":
    unittest.main()
