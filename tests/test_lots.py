"""Numbers and lots: promises [2], [5] and [11]."""

import unittest

from tests.helpers import (
    ANY_VALUES, NO_COUNTS, NO_LISTS, all_lots, check_judge, check_parameters, raised, wrong_lots,
)
from twoabove.basics import is_count, is_integer
from twoabove.errors import InvalidLot, InvalidShelves
from twoabove.lots import common, is_lot, is_within, joined, without

WRONG_SHELVES = NO_COUNTS + (0, 1, 9, 10 ** 29)


class NumbersTest(unittest.TestCase):
    def test_integers(self):
        for value in (0, 1, -1, 7, -3, 10 ** 29, -(10 ** 29)):
            self.assertIs(is_integer(value), True)
            self.assertIs(is_integer(value=value), True)

    def test_counts(self):
        for value in (0, 1, 7, 10 ** 29):
            self.assertIs(is_count(value), True)
            self.assertIs(is_count(value=value), True)
        for value in (-1, -2, -(10 ** 29)):
            self.assertIs(is_count(value), False)

    def test_truths_and_all_else_are_none(self):
        for value in (True, False) + tuple(value for value in ANY_VALUES if type(value) is not int):
            self.assertIs(is_integer(value), False, repr(value))
            self.assertIs(is_count(value), False, repr(value))


class LotsTest(unittest.TestCase):
    def test_the_example(self):
        told = [
            is_integer(-3), is_count(True), is_lot(3, [2, 0]), is_lot(3, [1, 1]), joined(4, [3, 0], (1, 0)),
            without(4, [0, 1, 2], [1]), common(4, [3, 1], [1, 2, 3]), is_within(2, [], [1]), is_within(2, [0, 1], [1]),
        ]
        self.assertEqual(told, [True, False, True, False, [0, 1, 3], [0, 2], [1, 3], True, False])

    def test_is_lot(self):
        for shelves in (2, 3, 8):
            for lot in all_lots(shelves):
                self.assertIs(is_lot(shelves, lot), True)
                self.assertIs(is_lot(shelves, tuple(lot[::-1])), True)
                self.assertIs(is_lot(value=lot, shelves=shelves), True)
            for wrong in wrong_lots(shelves):
                self.assertIs(is_lot(shelves, wrong), False, repr(wrong))
        check_judge(self, lambda value: is_lot(3, value), [], (), [2], [0, 1, 2], (2, 0, 1))

    def test_all_pairs_of_lots(self):
        for lot in all_lots(4):
            for other in all_lots(4):
                turned = tuple(other[::-1])
                self.assertEqual(joined(4, lot[::-1], turned), [s for s in range(4) if s in lot or s in other])
                self.assertEqual(without(4, lot[::-1], turned), [s for s in range(4) if s in lot and s not in other])
                self.assertEqual(common(4, lot[::-1], turned), [s for s in range(4) if s in lot and s in other])
                self.assertIs(is_within(4, lot[::-1], turned), all(s in other for s in lot))

    def test_two_and_eight_shelves(self):
        self.assertEqual(joined(2, [1], [0]), [0, 1])
        self.assertEqual(joined(8, [7, 3], [0, 7]), [0, 3, 7])
        self.assertEqual(without(8, (7, 6), []), [6, 7])
        self.assertEqual(common(8, [], [7]), [])
        self.assertIs(is_within(8, [7], [7]), True)

    def test_answers_are_new(self):
        for function in (joined, without, common):
            lot, other = [0, 1, 2], [0, 1]
            answer = function(3, lot, other)
            kept = list(answer)
            answer.append(5)
            self.assertEqual((lot, other), ([0, 1, 2], [0, 1]))
            self.assertEqual(function(3, lot, other), kept)

    def test_wrong_parameters(self):
        for shelves, lot, other in ((3, [2, 0], (0, 1)), (2, [], [])):
            for function in (joined, without, common, is_within):
                check_parameters(
                    self, function,
                    ("shelves", shelves, InvalidShelves, WRONG_SHELVES),
                    ("lot", lot, InvalidLot, wrong_lots(shelves)),
                    ("other", other, InvalidLot, wrong_lots(shelves)),
                )
        check_parameters(
            self, is_lot,
            ("shelves", 8, InvalidShelves, WRONG_SHELVES),
            ("value", [7], None, ()),
        )
        for wrong in NO_LISTS:
            raised(self, InvalidShelves, lambda: is_lot(9, wrong))

    def test_a_lot_is_asked_against_its_shelves(self):
        self.assertEqual(raised(self, InvalidLot, lambda: joined(2, [2], [0])).value, [2])
        self.assertEqual(raised(self, InvalidLot, lambda: joined(2, [0], (1, 2))).value, (1, 2))
        self.assertEqual(joined(3, [2], [0]), [0, 2])


if __name__ == "__main__":
    unittest.main()
