"""Claims, their contraries and their papers: promise [94]."""

import random
import unittest
from itertools import product

from tests.helpers import (
    ANY_VALUES, NO_COUNTS, NO_LISTS, NO_STORES, all_boards, all_small_stores, check_judge, raised, same, some_stores,
    wrong_boards, wrong_counts, wrong_shelves, wrong_weights,
)
from twoabove.aboves import is_above_row, never_two_above
from twoabove.claims import contrary, is_claim, is_paper_of, is_true, paper_of, words
from twoabove.errors import InvalidClaim
from twoabove.fullest import comes_fullest, is_peeling, is_stuck
from twoabove.leans import is_parting, lets_all
from twoabove.looks import are_givers, comes, is_bar
from twoabove.stores import Store
from twoabove.tolds import can_end, is_crowd, is_dealing
from twoabove.weights import is_closed_paper, is_rising_row, stays_below

SHOP = Store(3, [[0, 1], [1, 2]], [])
SOLD = Store(3, [[0, 1], [1, 2]], [[1, 2]])
ROWS = [("never", "above"), ("below", "without"), ("comes", "barred"), ("ends", "crowded"), ("lets", "parts"),
        ("fullest", "stuck")]
TRUTHS = {
    "never": never_two_above, "below": stays_below, "comes": comes, "ends": can_end, "lets": lets_all,
    "fullest": comes_fullest,
}
JUDGES = {
    "above": is_above_row, "below": is_closed_paper, "without": is_rising_row, "comes": are_givers, "barred": is_bar,
    "ends": is_dealing, "crowded": is_crowd, "parts": is_parting, "fullest": is_peeling, "stuck": is_stuck,
}
# For each row right parts, and for each part wrong values in its place.
PARTS = {
    "never": ((SHOP, 0, 2), (NO_STORES, wrong_shelves(3, 2), wrong_shelves(3, 0))),
    "below": ((SHOP, [1, -2, 1]), (NO_STORES, wrong_weights(3))),
    "comes": ((SHOP, [1, 0, 0], (0, 9, 60)), (NO_STORES, wrong_boards(3), wrong_boards(3))),
    "ends": (
        (SHOP, [1, 0, 0], (1, 1), [2, 1, 0]),
        (NO_STORES, wrong_boards(3), wrong_counts(2), wrong_boards(3) + ([2, 1, 1], [1, 1, 0], [0, 2, 1], (0, 0, 3))),
    ),
    "lets": ((SHOP, SOLD), (NO_STORES, NO_STORES + (Store(2, [], []), Store(4, [], [])))),
    "fullest": ((SHOP, (7, 0, 4)), (NO_STORES, wrong_boards(3))),
}


def row_of(word):
    return [row for row in ROWS if word in row][0]


def drawn_claims(dice, store):
    """A claim of each row of the store, drawn."""
    shelves = store.shelves
    board = [dice.randint(0, 2) for _ in range(shelves)]
    counts = [dice.randint(0, 2) for _ in store.deliveries()]
    wished = list(board)
    for _ in range(sum(counts)):
        wished[dice.randrange(shelves)] += 1
    other = dice.choice(some_stores(shelves, 4, dice.randint(0, 99)))
    weights = [dice.randint(-2, 1) for _ in range(shelves)]
    parts = [
        dice.sample(range(shelves), 2), [weights], [board, [pieces + dice.randint(0, 1) for pieces in board]],
        [board, counts, wished], [other], [board],
    ]
    return [(dice.choice(row), store, *told) for row, told in zip(ROWS, parts)]


def many_claims():
    dice = random.Random(170)
    for store in all_small_stores()[::3] + some_stores(3, 60, 171) + some_stores(5, 30, 172):
        for claim in drawn_claims(dice, store):
            yield claim


class ClaimTest(unittest.TestCase):
    def test_the_examples(self):
        nothing = [0, 0, 0]
        told = [
            is_true(("never", SHOP, 0, 1)), is_true(("never", SHOP, 1, 0)),
            is_paper_of(("above", SHOP, 1, 0), [("lay", 1)]), is_true(("below", SHOP, [1, -1, 1])),
            is_paper_of(("without", SHOP, [1, -1, 1]), [("lay", 0), ("lay", 1)]),
        ]
        self.assertEqual(told, [True, False, True, False, True])
        told = [
            is_true(("comes", SHOP, nothing, [2, 1, 0])),
            is_paper_of(("comes", SHOP, nothing, [2, 1, 0]), [(0, 0), (1, 0)]),
            is_true(("ends", SHOP, nothing, [3, 0], [2, 1, 0])), is_claim(("ends", SHOP, nothing, [3, 0], [1, 1, 0])),
            contrary(("lets", SHOP, SOLD))[0],
        ]
        self.assertEqual(told, [True, True, True, False, "parts"])

    def test_words(self):
        self.assertEqual(words(), ROWS)
        self.assertTrue(type(words()) is list and all(type(row) is tuple for row in words()))
        words().append(("one", "other"))
        self.assertEqual(words(), ROWS)

    def test_right_parts(self):
        for first, second in ROWS:
            for word in (first, second):
                self.assertIs(is_claim((word,) + PARTS[first][0]), True)
                turned = tuple(
                    tuple(part) if isinstance(part, list) else list(part) if isinstance(part, tuple) else part
                    for part in PARTS[first][0]
                )
                self.assertIs(is_claim((word,) + turned), True)
        self.assertIs(is_claim(("crowded", Store(2, [], []), [1, 0], (), [1, 0])), True)
        self.assertIs(is_claim(("barred", Store(2, [], []), [60, 60], [0, 0])), True)
        self.assertIs(is_claim(("without", Store(2, [], []), (-(10 ** 5), 10 ** 5))), True)
        self.assertIs(is_claim(("parts", SHOP, SHOP)), True)

    def wrong_claims(self):
        for first, second in ROWS:
            good, wrongs = PARTS[first]
            for at, choice in enumerate(wrongs):
                for wrong in choice:
                    yield (dict(enumerate((first, second)))[at % 2],) + good[:at] + (wrong,) + good[at + 1:]
            for word in (first, second):
                yield (word,) + good[:-1]
                yield (word,) + good + good[-1:]
                yield (word,) + good + (None,)
                yield [word, *good]
                yield (word, list(good))
                yield (word, good)
                yield good
                yield (word,)
            for other in ("", "Never", first + " ", "nothing", b"never", None, True, 0, [first], (first,), {}, SHOP,
                          len):
                yield (other,) + good
        for first, second in product(PARTS, repeat=2):
            # A board is a list of weights, too.
            if first != second and (first, second) != ("below", "fullest"):
                yield (first,) + PARTS[second][0]
        yield ()

    def test_wrong_parts(self):
        for wrong in self.wrong_claims():
            self.assertIs(is_claim(wrong), False, repr(wrong))
            for call in (
                lambda: is_true(wrong), lambda: contrary(claim=wrong), lambda: paper_of(wrong),
                lambda: is_paper_of(wrong, [("lay", 1)]),
            ):
                error = raised(self, InvalidClaim, call)
                self.assertEqual(list(vars(error)), ["value"])
                self.assertTrue(same(error.value, wrong))

    def test_any_value(self):
        check_judge(self, is_claim, *[(word,) + PARTS[row[0]][0] for row in ROWS for word in row])
        for value in ANY_VALUES + NO_COUNTS + NO_LISTS:
            self.assertIs(is_claim(value), False)
            self.assertIs(raised(self, InvalidClaim, lambda: is_true(value)).value, value)
            raised(self, InvalidClaim, lambda: is_paper_of(claim=value, value=value))

    def test_nothing_more_is_decided(self):
        self.assertIs(is_claim(("never", SHOP, 1, 0)), True)
        self.assertIs(is_claim(("ends", SHOP, [0, 0, 0], [3, 0], [3, 0, 0])), True)
        self.assertIs(is_claim(("comes", SHOP, [9, 9, 9], [0, 0, 0])), True)


class TrueTest(unittest.TestCase):
    def test_against_the_earlier_functions(self):
        seen = set()
        for claim in many_claims():
            word, *parts = claim
            first = row_of(word)[0]
            told = is_true(claim)
            self.assertIs(told, TRUTHS[first](*parts) == (word == first))
            self.assertIs(is_true(claim=claim), told)
            seen.add((word, told))
        self.assertEqual(len(seen), 24)

    def test_contrary_twice(self):
        for claim in many_claims():
            other = contrary(claim)
            self.assertIs(type(other), tuple)
            self.assertEqual({claim[0], other[0]}, set(row_of(claim[0])))
            self.assertEqual(other[1:], claim[1:])
            self.assertIs(is_claim(other), True)
            self.assertIs(is_true(other), not is_true(claim))
            self.assertTrue(same(contrary(other), claim))

    def test_the_same_parts_with_new_lists_and_tuples(self):
        board, counts, wished = [1, 0, 0], (1, 1), [2, 1, 0]
        claim = ("ends", SHOP, board, counts, wished)
        other = contrary(claim)
        self.assertEqual([type(part) for part in other], [str, Store, list, tuple, list])
        for at in (2, 3, 4):
            self.assertIsNot(other[at], claim[at])
            self.assertEqual(other[at], claim[at])
        other[2].append(7)
        other[4].clear()
        self.assertEqual((board, counts, wished), ([1, 0, 0], (1, 1), [2, 1, 0]))


class PaperTest(unittest.TestCase):
    def test_papers_exactly_where_they_are_told(self):
        seen = set()
        for claim in many_claims():
            word, *parts = claim
            paper = paper_of(claim)
            if word in ("never", "lets"):
                self.assertIs(paper, None)
            else:
                self.assertIs(paper is not None, is_true(claim), claim)
            if paper is not None:
                self.assertIs(JUDGES[word](*parts, paper), True)
                self.assertIs(is_paper_of(claim, paper), True)
                self.assertIs(is_paper_of(contrary(claim), paper), False)
                self.assertTrue(same(paper_of(claim), paper))
                seen.add(word)
        self.assertEqual(seen, set(JUDGES))

    def test_judged_as_by_the_judges(self):
        claims = list(many_claims())
        papers = [paper_of(claim) for claim in claims] + list(ANY_VALUES) + [None, (), [], [0], [(0, 0)], [[], [0]]]
        dice = random.Random(173)
        for claim in claims:
            word, *parts = claim
            for paper in dice.sample(papers, 25):
                told = is_paper_of(claim, paper)
                self.assertIs(told, word in JUDGES and JUDGES[word](*parts, paper))
                self.assertIs(is_paper_of(value=paper, claim=claim), told)
                if told:
                    self.assertIs(is_true(claim), True)
                    self.assertIs(is_paper_of(contrary(claim), paper), False)

    def test_bent_papers(self):
        dice = random.Random(174)
        for claim in many_claims():
            paper = paper_of(claim)
            if not paper:
                continue
            word, *parts = claim
            rows = list(paper)
            at = dice.randrange(len(rows))
            bends = [rows[:at] + rows[at + 1:], rows + rows[at:at + 1], rows[::-1], rows[:at] + [None] + rows[at + 1:],
                     [list(row) if isinstance(row, tuple) else row for row in rows], tuple(rows), rows]
            for value in bends + [tuple(one) for one in bends]:
                told = is_paper_of(claim, value)
                self.assertIs(told, JUDGES[word](*parts, value))
                if told:
                    self.assertIs(is_true(claim), True)

    def test_without_papers(self):
        for value in ANY_VALUES + ([], (), [("lay", 0)]):
            self.assertIs(is_paper_of(("never", SHOP, 0, 1), value), False)
            self.assertIs(is_paper_of(("lets", SHOP, SHOP), value), False)

    def test_told_is_new(self):
        for claim in (("below", SHOP, [1, -2, 1]), ("ends", SHOP, [0, 0, 0], [2, 1], [2, 1, 0]),
                      ("stuck", SHOP, [1, 1, 1])):
            kept = paper_of(claim)
            told = paper_of(claim)
            if kept:
                told[0].append(9) if isinstance(told[0], list) else None
                told.clear()
            self.assertEqual(paper_of(claim), kept)

    def test_small_stores_and_all_boards(self):
        for store in all_small_stores()[::4]:
            for board, wished in product(all_boards(2, 1), all_boards(2, 2)):
                claim = ("comes", store, board, wished)
                papers = [paper_of(claim), paper_of(contrary(claim))]
                self.assertEqual(papers.count(None), 1)


if __name__ == "__main__":
    unittest.main()
