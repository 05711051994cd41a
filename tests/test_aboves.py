"""Never two above, whom to blame, and level groups: promises [41] and [42], and the rows of [44]."""

import unittest
from itertools import permutations

from tests.helpers import (
    ANY_VALUES, NO_STORES, all_kinds, all_rows, all_small_stores, behind_all, check_judge, check_parameters,
    second_closure, second_row_lot, some_stores, wrong_shelves,
)
from tests.test_rows import wrong_rows
from twoabove.aboves import above_row, blame, is_above_row, level_groups, never_table, never_two_above
from twoabove.deeds import boards
from twoabove.errors import InvalidShelf, InvalidStore
from twoabove.histories import blown
from twoabove.stores import Store, named, without_delivery, without_sale

PLAIN = Store(3, [[0, 1], [1, 2]], [])
SOLD = Store(3, [[0, 1], [1, 2]], [[1, 2]])
STORES = all_small_stores() + some_stores(3, 120, 50) + some_stores(5, 40, 51) + some_stores(8, 8, 52)


def pairs_of(store):
    return list(permutations(range(store.shelves), 2))


def second_never(store, shelf, other):
    """Whether no flat lot holds the shelf without the other one."""
    return not any(shelf in lot and other not in lot for lot in second_closure(store, []))


def without_blamed(store, deliveries, sales):
    """The store without the kinds at these positions."""
    for position in deliveries[::-1]:
        store = without_delivery(store, position)
    for position in sales[::-1]:
        store = without_sale(store, position)
    return store


class NeverTest(unittest.TestCase):
    def test_the_example(self):
        told = [
            never_table(PLAIN), blame(PLAIN, 1, 0), blame(SOLD, 0, 1), never_two_above(SOLD, 0, 1),
            above_row(PLAIN, 0, 1), is_above_row(SOLD, 0, 1, [("lay", 0), ("off", 0)]),
            level_groups(Store(3, [[0, 1]], [])),
        ]
        table = [[True, True, False], [False, True, False], [False, True, True]]
        self.assertEqual(told, [table, ([1], []), ([], [0]), False, None, True, [[0, 1], [2]]])

    def test_exactly_if_no_flat_lot_has_the_one_alone(self):
        for store in STORES:
            table = never_table(store)
            self.assertEqual([len(row) for row in table], [store.shelves] * store.shelves)
            self.assertTrue(all(isinstance(told, bool) for row in table for told in row))
            self.assertTrue(all(table[shelf][shelf] is True for shelf in range(store.shelves)))
            for shelf, other in pairs_of(store):
                told = never_two_above(store, shelf, other)
                self.assertIs(told, second_never(store, shelf, other))
                self.assertIs(table[shelf][other], told)

    def test_against_a_search(self):
        for store in all_small_stores() + some_stores(3, 25, 53):
            found = behind_all(store, 3)
            for shelf, other in pairs_of(store):
                stands = any(board[shelf] >= board[other] + 2 for board in found)
                self.assertIs(never_two_above(store, shelf, other), not stands)

    def test_each_unnamed_shelf(self):
        for store in STORES:
            for shelf, other in pairs_of(store):
                if shelf not in named(store):
                    self.assertIs(never_two_above(store, shelf, other), True)
                    self.assertEqual(blame(store, shelf, other), ([], []))
                    self.assertIs(above_row(store, shelf, other), None)
        store = Store(3, [[0, 1]], [[0], [1], [0, 1]])
        self.assertIs(never_two_above(store, 2, 0), True)
        self.assertEqual(blame(store, 2, 0), ([], []))
        self.assertEqual(blame(store, 0, 2), ([0], []))

    def test_wrong_parameters(self):
        shelf = ("shelf", 1, InvalidShelf, wrong_shelves(3))
        other = ("other", 2, InvalidShelf, wrong_shelves(3, 1))
        for function in (never_two_above, above_row, blame):
            check_parameters(self, function, ("store", SOLD, InvalidStore, NO_STORES), shelf, other)
        for function in (never_table, level_groups):
            check_parameters(self, function, ("store", SOLD, InvalidStore, NO_STORES))

    def test_told_is_new(self):
        never_table(PLAIN)[0][0] = False
        never_table(PLAIN)[0].append(1)
        never_table(PLAIN).append([])
        self.assertEqual(never_table(PLAIN)[0], [True, True, False])
        self.assertEqual(len(never_table(PLAIN)), 3)


class RowTest(unittest.TestCase):
    def test_a_row_exactly_if_not_never(self):
        for store in STORES:
            for shelf, other in pairs_of(store):
                row = above_row(store, shelf, other)
                self.assertIs(row is None, second_never(store, shelf, other))
                if row is not None:
                    lot = second_row_lot(store, row)
                    self.assertTrue(shelf in lot and other not in lot)
                    self.assertIs(is_above_row(store, shelf, other, row), True)
                    self.assertIs(is_above_row(store, shelf, other, tuple(row)), True)
                    self.assertIs(is_above_row(store, other, shelf, row), False)

    def test_the_row_can_be_blown_up(self):
        for store in all_small_stores() + some_stores(4, 30, 54):
            for shelf, other in pairs_of(store):
                row = above_row(store, shelf, other)
                if row is not None:
                    board = boards(store, [0] * store.shelves, blown(store, row, 5))[-1]
                    self.assertEqual((board[shelf], board[other]), (5, 0))

    def test_the_judge_on_all_short_rows(self):
        for store in all_small_stores()[::2] + some_stores(3, 12, 55):
            for row in all_rows(store, 2):
                lot = second_row_lot(store, row)
                for shelf, other in pairs_of(store):
                    self.assertIs(is_above_row(store, shelf, other, row), shelf in lot and other not in lot)

    def test_any_value(self):
        check_judge(
            self, lambda value: is_above_row(PLAIN, 0, 2, value), [("lay", 0)], (("lay", 0),), [("lay", 0)] * 60,
        )
        for wrong in ANY_VALUES:
            if wrong not in ([("lay", 0)], (("lay", 0),)):
                self.assertIs(is_above_row(PLAIN, 0, 2, wrong), False)
        for wrong in wrong_rows():
            self.assertIs(is_above_row(SOLD, 0, 2, wrong), False)

    def test_wrong_parameters(self):
        check_parameters(
            self, is_above_row,
            ("store", SOLD, InvalidStore, NO_STORES), ("shelf", 0, InvalidShelf, wrong_shelves(3)),
            ("other", 1, InvalidShelf, wrong_shelves(3, 0)), ("value", [("lay", 0), ("off", 0)], None, ()),
        )

    def test_told_is_new(self):
        above_row(PLAIN, 0, 2).append(("lay", 1))
        self.assertEqual(above_row(PLAIN, 0, 2), [("lay", 0)])


class BlameTest(unittest.TestCase):
    def test_none_exactly_if_never(self):
        for store in STORES:
            for shelf, other in pairs_of(store):
                deliveries, sales = blame(store, shelf, other)
                self.assertIs(deliveries == [] and sales == [], second_never(store, shelf, other))
                self.assertEqual(deliveries, sorted(set(deliveries)))
                self.assertEqual(sales, sorted(set(sales)))

    def test_each_kind_to_blame_is_enough(self):
        for store in STORES:
            for shelf, other in pairs_of(store):
                blamed = blame(store, shelf, other)
                self.assertIs(type(blamed), tuple)
                for at, kind in enumerate(store.deliveries()):
                    alone = Store(store.shelves, [kind], [])
                    self.assertIs(at in blamed[0], not second_never(alone, shelf, other))
                every = [list(range(store.shelves))]
                for at, kind in enumerate(store.sales()):
                    alone = Store(store.shelves, every if shelf in named(store) else [], [kind])
                    self.assertIs(at in blamed[1], not second_never(alone, shelf, other))

    def test_left_out_it_never_does(self):
        for store in STORES:
            for shelf, other in pairs_of(store):
                left = without_blamed(store, *blame(store, shelf, other))
                self.assertIs(never_two_above(left, shelf, other), True)

    def test_told_is_new(self):
        deliveries, sales = blame(PLAIN, 1, 0)
        deliveries.append(0)
        sales.append(0)
        self.assertEqual(blame(PLAIN, 1, 0), ([1], []))
        blame(Store(2, [], []), 1, 0)[0].append(3)
        self.assertEqual(blame(Store(2, [], []), 1, 0), ([], []))


class GroupsTest(unittest.TestCase):
    def test_each_shelf_in_just_one(self):
        for store in STORES:
            groups = level_groups(store)
            self.assertEqual(groups, sorted(groups))
            self.assertEqual(sorted(shelf for group in groups for shelf in group), list(range(store.shelves)))
            for group in groups:
                self.assertEqual(group, sorted(group))
                self.assertTrue(group)
            for shelf, other in pairs_of(store):
                alike = second_never(store, shelf, other) and second_never(store, other, shelf)
                self.assertIs(any(shelf in group and other in group for group in groups), alike)

    def test_led_on_from_pair_to_pair(self):
        for store in STORES:
            table = never_table(store)
            for first, second in pairs_of(store):
                for third in range(store.shelves):
                    self.assertTrue(table[first][third] or not (table[first][second] and table[second][third]))

    def test_plain_groups(self):
        self.assertEqual(level_groups(Store(3, [], [[0]])), [[0, 1, 2]])
        self.assertEqual(level_groups(Store(4, [[0, 2], [1, 3]], [])), [[0, 2], [1, 3]])
        self.assertEqual(level_groups(Store(3, all_kinds(3), [])), [[0], [1], [2]])
        self.assertEqual(level_groups(Store(3, [[0, 1, 2]], [[0, 1], [2]])), [[0, 1], [2]])
        level_groups(PLAIN)[0].append(7)
        self.assertEqual(level_groups(PLAIN), [[0], [1], [2]])


if __name__ == "__main__":
    unittest.main()
