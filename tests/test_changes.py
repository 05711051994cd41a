"""Changes, the fewest of them, and what a further kind takes away: promises [84] to [86]."""

import random
import unittest
from itertools import combinations, product

from tests.helpers import (
    NO_LISTS, NO_STORES, NO_TUPLES, all_kinds, all_small_stores, check_judge, check_parameters, raised, same,
    second_closure, some_stores, wrong_kinds, wrong_shelves,
)
from twoabove.changes import changed, fewest_changes, is_mending, lost_by_sale, lost_pairs, mending
from twoabove.errors import InvalidChanges, InvalidKind, InvalidShelf, InvalidStore
from twoabove.stores import Store

THREE = Store(3, [[0, 1], [1, 2]], [])
MIXED = Store(3, [[0, 1], [1, 2]], [[1, 2]])
FULL = Store(8, [[shelf, (shelf + 1) % 8] for shelf in range(8)], [[shelf, (shelf + 2) % 8] for shelf in range(8)])


def second_never(store, shelf, other):
    """Whether one shelf never stands two above another one: no flat lot holds the one without the other."""
    return not any(shelf in lot and other not in lot for lot in second_closure(store, []))


def all_changes(store):
    """All tuples that have the form of a change."""
    return list(product(("in", "out"), ("delivery", "sale"), range(8), range(store.shelves)))


def second_changed(store, changes):
    """The Store that comes of changes of any form, None if they are none of this store."""
    kinds = {"delivery": [set(kind) for kind in store.deliveries()], "sale": [set(kind) for kind in store.sales()]}
    if len(set(changes)) != len(changes) or len(changes) > 20:
        return None
    behind = {sort: [set(kind) for kind in told] for sort, told in kinds.items()}
    for way, sort, position, shelf in changes:
        if position >= len(kinds[sort]) or (shelf in kinds[sort][position]) != (way == "out"):
            return None
        behind[sort][position] ^= {shelf}
    if not all(behind["delivery"]) or not all(behind["sale"]):
        return None
    return Store(store.shelves, [list(kind) for kind in behind["delivery"]], [list(kind) for kind in behind["sale"]])


def drawn_changes(dice, store, many):
    """So many changes, most of them right ones."""
    good = [change for change in all_changes(store) if second_changed(store, [change])]
    picked = dice.sample(good, min(many, len(good)))
    if dice.random() < 0.3:
        picked.append(dice.choice(all_changes(store)))
    return picked


class ChangedTest(unittest.TestCase):
    def test_the_examples(self):
        told = [
            fewest_changes(MIXED, 0, 1), fewest_changes(THREE, 1, 0), fewest_changes(THREE, 0, 1), mending(THREE, 0, 1),
            changed(MIXED, [("in", "sale", 0, 0)]).sales(), is_mending(MIXED, 0, 1, [("in", "sale", 0, 0)]),
            is_mending(MIXED, 0, 1, []),
        ]
        self.assertEqual(told, [1, 1, 0, [], [[0, 1, 2]], True, False])
        told = [
            lost_pairs(THREE, [0]), lost_by_sale(THREE, [1, 2]), lost_pairs(THREE, [1, 0]),
            changed(THREE, [("out", "delivery", 0, 0), ("out", "delivery", 1, 2)]).deliveries(),
        ]
        self.assertEqual(told, [[(0, 1)], [(0, 1)], [], [[1]]])

    def test_against_a_second_way(self):
        dice = random.Random(150)
        for store in all_small_stores() + some_stores(4, 150, 151) + [FULL] * 40:
            changes = drawn_changes(dice, store, dice.randint(0, 6))
            behind = second_changed(store, changes)
            before = (store.deliveries(), store.sales())
            if behind is None:
                self.assertIs(raised(self, InvalidChanges, lambda: changed(store, changes)).value, changes)
            else:
                self.assertEqual(changed(store, changes), behind)
                self.assertEqual(changed(store, tuple(changes)), behind)
            self.assertEqual((store.deliveries(), store.sales()), before)

    def test_each_change_alone(self):
        for store in (THREE, MIXED, Store(3, [[0]], [[0, 1, 2], [2]]), Store(3, [], [])):
            for change in all_changes(store):
                behind = second_changed(store, [change])
                if behind is None:
                    self.assertEqual(raised(self, InvalidChanges, lambda: changed(store, [change])).value, [change])
                else:
                    self.assertEqual(changed(store, [change]), behind)

    def test_kinds_that_become_alike(self):
        store = Store(3, [[0], [0, 1], [1], [1, 2]], [[0], [1]])
        behind = changed(store, [("in", "delivery", 0, 1), ("out", "delivery", 3, 2), ("in", "sale", 0, 1)])
        self.assertEqual(behind, Store(3, [[0, 1], [1]], [[0, 1], [1]]))
        self.assertEqual(changed(store, ()), store)

    def test_no_kind_gets_empty_by_all_of_them_together(self):
        store = Store(3, [[0], [0, 1]], [[2]])
        swapped = [("out", "delivery", 0, 0), ("in", "delivery", 0, 2)]
        for changes in (swapped, swapped[::-1]):
            self.assertEqual(changed(store, changes), Store(3, [[0, 1], [2]], [[2]]))
        for wrong in (
            swapped[:1], [("out", "delivery", 1, 0), ("out", "delivery", 1, 1)], [("out", "sale", 0, 2)],
            [("out", "sale", 0, 2), ("in", "delivery", 0, 2)],
        ):
            self.assertIs(raised(self, InvalidChanges, lambda: changed(store, wrong)).value, wrong)

    def test_twenty_changes(self):
        good = [change for change in all_changes(FULL) if change[0] == "in" and second_changed(FULL, [change])]
        puts, mores = good[::4][:20], [good[1], ("out", "delivery", 1, 0)]
        self.assertEqual(changed(FULL, puts), second_changed(FULL, puts))
        for more in mores:
            self.assertIs(is_mending(FULL, 0, 1, puts + [more]), False)
            raised(self, InvalidChanges, lambda: changed(FULL, puts + [more]))
            self.assertEqual(changed(FULL, puts[1:] + [more]), second_changed(FULL, puts[1:] + [more]))

    def test_wrong_changes(self):
        good = ("in", "delivery", 0, 2)
        wrongs = [
            [good, good], [("in", "delivery", 0, 0)], [("out", "delivery", 0, 2)], [("in", "delivery", 2, 2)],
            [("in", "delivery", -1, 2)], [("in", "delivery", 0, 3)], [("in", "delivery", 0, -1)], [list(good)], good,
            [("in", "delivery", False, 2)], [("in", "delivery", 0, "2")], [("in", "delivery", True, 0)],
            [("in", "sale", 0, True)], [("put", "delivery", 0, 2)], [("in", "deliveries", 0, 2)],
            [("in", "sale", 1, 0)],
            [(b"in", "delivery", 0, 2)], [("in", b"delivery", 0, 2)], [("In", "delivery", 0, 2)],
            [("in", "delivery", 0)],
            [good + (0,)], [()], [("", "delivery", 0, 2)], [("in", "", 0, 2)], [(["in"], "delivery", 0, 2)],
            [("in", ["delivery"], 0, 2)], [("in", "delivery", [0], 2)], [("in", "delivery", 0, [2])], [None], [[]],
            {good: 1},
            [("in", "delivery", None, 2)], [("in", "delivery", 0, None)], [({}, "delivery", 0, 2)],
            [("in", {}, 0, 2)], [("delivery", "in", 0, 2)], [("in", "delivery", 10 ** 29, 2)], {good}, "in",
        ]
        for wrong in wrongs + [[good, wrong] for wrong in NO_TUPLES]:
            self.assertIs(raised(self, InvalidChanges, lambda: changed(MIXED, wrong)).value, wrong)
            self.assertIs(is_mending(MIXED, 0, 1, wrong), False)

    def test_wrong_parameters(self):
        check_parameters(
            self, changed,
            ("store", MIXED, InvalidStore, NO_STORES), ("changes", [("in", "sale", 0, 0)], InvalidChanges, NO_LISTS),
        )


class FewestTest(unittest.TestCase):
    def test_against_a_search_over_all_changes(self):
        stores = [Store(2, deliveries, sales) for deliveries in ([], [[0]], [[1]], [[0], [0, 1]], [[0], [1]], [[0, 1]])
                  for sales in ([], [[1]], [[0], [1]], [[0, 1]])]
        stores += [store for store in some_stores(3, 60, 152) if len(store.deliveries()) + len(store.sales()) <= 4]
        for store in stores:
            good = [change for change in all_changes(store) if change[2] < 4]
            for shelf, other in [(0, 1), (1, 0), (store.shelves - 1, 0)]:
                told = fewest_changes(store, shelf, other)
                for many in range(min(told, 3) + 1):
                    found = any(
                        second_never(behind, shelf, other)
                        for behind in (second_changed(store, list(pick)) for pick in combinations(good, many))
                        if behind is not None
                    )
                    self.assertIs(found, many == told, (store.deliveries(), store.sales(), shelf, other))

    def test_mending_of_just_so_many(self):
        for store in all_small_stores() + some_stores(4, 120, 153) + some_stores(6, 40, 154) + [FULL]:
            for shelf, other in product(range(store.shelves), repeat=2):
                if shelf == other:
                    continue
                told = mending(store, shelf, other)
                self.assertEqual(len(told), fewest_changes(store, shelf, other))
                self.assertTrue(type(told) is list and all(type(change) is tuple for change in told))
                self.assertTrue(second_never(second_changed(store, told), shelf, other))
                self.assertIs(is_mending(store, shelf, other, told), True)
                if told:
                    self.assertIs(is_mending(store, shelf, other, told[1:]), False)

    def test_the_lesser_of_two_sums(self):
        store = Store(4, [[0], [0, 1], [0, 2], [2, 3]], [[1], [1, 2], [1, 3]])
        self.assertEqual(fewest_changes(store, 0, 1), 4)
        self.assertEqual(fewest_changes(store, 0, 3), 4)
        self.assertEqual(fewest_changes(store, 0, 2), 3)
        self.assertEqual(fewest_changes(store, 2, 1), 2)
        self.assertEqual(fewest_changes(store, 1, 0), 0)
        self.assertEqual(fewest_changes(Store(2, [[0]], [[1]]), 0, 1), 2)
        self.assertEqual(fewest_changes(Store(3, [[0]], [[1], [1, 2]]), 0, 1), 2)
        self.assertEqual(fewest_changes(Store(2, [[1]], [[1]]), 0, 1), 0)
        self.assertEqual(mending(Store(2, [[1]], [[1]]), 0, 1), [])

    def test_the_judge_on_drawn_changes(self):
        dice = random.Random(155)
        for store in all_small_stores()[::3] + some_stores(4, 200, 156):
            changes = drawn_changes(dice, store, dice.randint(0, 5))
            behind = second_changed(store, changes)
            shelf, other = dice.sample(range(store.shelves), 2)
            good = behind is not None and second_never(behind, shelf, other)
            self.assertIs(is_mending(store, shelf, other, changes), good)
            self.assertIs(is_mending(store, shelf, other, tuple(changes)), good)

    def test_more_changes_than_needed(self):
        self.assertIs(is_mending(THREE, 1, 0, [("in", "delivery", 1, 0), ("in", "delivery", 0, 2)]), True)
        self.assertIs(is_mending(THREE, 0, 1, []), True)
        self.assertIs(is_mending(THREE, 0, 1, [("out", "delivery", 0, 1)]), False)

    def test_any_value(self):
        good = [("in", "sale", 0, 0)]
        check_judge(self, lambda value: is_mending(MIXED, 0, 1, value), good, tuple(good))
        check_judge(self, lambda value: is_mending(THREE, 0, 1, value), [], ())
        check_judge(self, lambda value: is_mending(Store(3, [], []), 0, 1, value), [], ())

    def test_wrong_parameters(self):
        parameters = [
            ("store", MIXED, InvalidStore, NO_STORES), ("shelf", 0, InvalidShelf, wrong_shelves(3)),
            ("other", 1, InvalidShelf, wrong_shelves(3, 0)),
        ]
        check_parameters(self, fewest_changes, *parameters)
        check_parameters(self, mending, *parameters)
        check_parameters(self, is_mending, *parameters, ("value", [], None, ()))

    def test_told_is_new(self):
        mending(THREE, 1, 0).append(None)
        self.assertEqual(len(mending(THREE, 1, 0)), 1)


class LostTest(unittest.TestCase):
    def test_against_the_table_ahead_and_behind(self):
        for store in all_small_stores()[::2] + some_stores(4, 60, 157):
            pairs = [pair for pair in product(range(store.shelves), repeat=2) if pair[0] != pair[1]]
            for kind in all_kinds(store.shelves):
                more = Store(store.shelves, store.deliveries() + [kind], store.sales())
                lost = [pair for pair in pairs if second_never(store, *pair) and not second_never(more, *pair)]
                self.assertEqual(lost_pairs(store, kind), lost)
                more = Store(store.shelves, store.deliveries(), store.sales() + [kind])
                lost = [pair for pair in pairs if second_never(store, *pair) and not second_never(more, *pair)]
                self.assertEqual(lost_by_sale(store, kind), lost)
                self.assertTrue(same(lost_by_sale(store, tuple(kind[::-1])), lost))

    def test_a_further_kind_brings_no_pair(self):
        for store in some_stores(4, 30, 158):
            for kind in all_kinds(4)[::3]:
                for more in (
                    Store(4, store.deliveries() + [kind], store.sales()),
                    Store(4, store.deliveries(), store.sales() + [kind]),
                ):
                    for shelf, other in product(range(4), repeat=2):
                        if second_never(more, shelf, other):
                            self.assertTrue(second_never(store, shelf, other))

    def test_a_store_of_eight_kinds(self):
        rows = [[shelf, (shelf + 1) % 8] for shelf in range(8)]
        paired = Store(8, [[0, 1]] + [[2, 3, shelf] for shelf in (4, 5, 6, 7)] + [[2, 3], [4, 5], [6, 7]], rows)
        self.assertEqual(len(paired.deliveries()), 8)
        self.assertEqual(lost_pairs(paired, (3, 2)), [])
        bare = Store(8, [[0, 1]] + [[2, 3, shelf] for shelf in (4, 5, 6, 7)] + [[2, 3], [4, 5], [6, 7]], [])
        self.assertEqual(lost_pairs(bare, [0]), [(0, 1)])
        self.assertEqual(lost_pairs(bare, [3, 7]), [(3, 2)])
        self.assertEqual(lost_by_sale(Store(8, [[0, 1]], rows), [1, 3]), [])
        self.assertEqual(lost_by_sale(Store(8, [[0, 1]], rows[1:] + [[2, 4]]), [0, 7]), [])

    def test_wrong_parameters(self):
        for function in (lost_pairs, lost_by_sale):
            for store in (MIXED, Store(3, [], [])):
                check_parameters(
                    self, function,
                    ("store", store, InvalidStore, NO_STORES), ("kind", (2, 0), InvalidKind, wrong_kinds(3)),
                )
            function(THREE, [0]).append(None)
            self.assertNotIn(None, function(THREE, [0]))


if __name__ == "__main__":
    unittest.main()
