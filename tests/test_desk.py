"""The desk, its commands, states and limits: promises [95] to [98]."""

import random
import unittest

from tests.desk_model import DEED_FORMS, QUESTION_FORMS, Model
from tests.helpers import ANY_VALUES, NO_COUNTS, NO_LISTS, raised, same
from twoabove import errors
from twoabove.desk import Desk
from twoabove.stores import Store

TEXTS = {
    "STORE": ["3:0,1;1,2/-", "3:0,1;1,2/1,2", "3:0;1;2/0,1,2", "3:0,1/0", "2:0,1/0", "2:-/-", "3:0,0/-", "1:-/-",
              "3:0/7"],
    "BOARD": ["0,0,0", "2,1,0", "1,1,0", "0,1,1", "1,1,1", "3,0,1", "2,2,1", "0,0", "60,60,59", "61,0", "5"],
    "WEIGHTS": ["1,-1,1", "1,-2,1", "0,0,-1", "-1,0,2", "1,-1", "7"],
    "COUNTS": ["1,1", "2,0", "0,1", "1,0", "3", "1,0,1", "-", "21"],
    "KIND": ["0", "1,2", "0,2", "2", "1,0", "2,1,0", "0,0", "5"], "ORDER": ["2,1,0", "0,2,1", "1,2,0", "1,0", "0,0"],
    "HISTORY": ["put0>0", "put0>1,put1>2", "-", "take0>1", "miss0", "put0>0,put0>0", "put0>7"],
    "LOT": ["-", "0", "1,0", "2,1,0", "7"],
}
STARTS = [
    "store s 3:0,1;1,2/1,2", "store t 3:0,1;1,2/-", "board b 0,0,0", "board v 1,1,0", "weights w 1,-2,1",
    "weights x 1,-1,1",
    "counts c 1,1", "counts d 2,0",
]
LETTERS = {"s": "s s t t u", "b": "b v", "w": "w x", "c": "c d", "n": "s t u b v w x c d", "a": "s t u b v w x c d",
           "o": "s t b v w x c d", "k": "k l m s n", "l": "k l m s n"}
OWNER = {"store": "s", "board": "b", "weights": "w", "counts": "c", "beside": "s", "lean": "s"}


def drawn(dice, form):
    """A command of the form, of few names; names that are new are mostly of the letters of their sort."""
    word, *wanted = form.split(" ")
    parts = [word]
    for one in wanted:
        if one == "#":
            parts.append(str(dice.choice((0, 0, 0, 1, 1, 1, 2, 2, 7))))
        elif one in TEXTS:
            parts.append(dice.choice(TEXTS[one]))
        elif one == "n" and dice.random() < 0.9:
            parts.append(dice.choice(LETTERS[OWNER[word]].split()))
        elif len(one) == 1:
            parts.append(dice.choice((LETTERS[one] if dice.random() < 0.97 else LETTERS["a"]).split()))
        else:
            parts.append(one)
    return " ".join(parts)


def drawn_commands(dice, many):
    """So many commands: first some things, then mostly deeds."""
    makers = [form for form in DEED_FORMS if form.split(" ")[0] in OWNER]
    claims = [form for form in DEED_FORMS if form.startswith("claim")]
    others = [form for form in DEED_FORMS if form not in makers + claims]
    told = dice.sample(STARTS, dice.randint(0, len(STARTS)))
    for _ in range(many):
        forms = dice.choice([makers, claims, others, others, QUESTION_FORMS, QUESTION_FORMS, ["undo", "undo", "redo"]])
        told.append(drawn(dice, dice.choice(forms)))
        if dice.random() < 0.03:
            told.append(dice.choice(("", "undo ", "x", "put b s 0", None, 7)))
    return told


def outcome(call):
    """The answer, or the error's class, attributes and cause."""
    try:
        return call()
    except Exception as caught:
        cause = caught.__cause__
        return type(caught), vars(caught), type(cause), {} if cause is None else vars(cause)


def snapshot(desk):
    """All that can be seen of a desk; it is left as it was."""
    told = [desk.names, desk.labels, len(desk), desk.lines(), {name: desk[name] for name in desk.names}]
    told += [desk.do("states"), [(desk.claim_of(label), desk.do(f"claimed {label}")) for label in desk.labels]]
    told.append([desk.fits(label) for label in desk.labels])
    return told + [row(desk.copy(), "undo"), row(desk.copy(), "redo")]


def row(desk, command):
    """The answers to a command again and again, until it fails."""
    told = []
    while True:
        try:
            told.append(desk.do(command))
        except errors.StateError:
            return told


def shop():
    """A desk with some things and claims."""
    desk = Desk()
    desk.do_all(
        "store s 3:0,1;1,2/-", "store t 3:0,1;1,2/1,2", "board b 0,0,0", "board w 2,1,0", "weights x 1,-2,1",
        "counts c 3,0", "claim k never s 0 1", "claim l ends s b c w",
    )
    return desk


class ModelTest(unittest.TestCase):
    def test_drawn_rows_of_commands(self):
        dice = random.Random(190)
        for _ in range(150):
            desk, model = Desk(), Model()
            for command in drawn_commands(dice, 60):
                told, wanted = outcome(lambda: desk.do(command)), outcome(lambda: model.do(command))
                self.assertEqual(told, wanted, (model.past, command))
                self.assertEqual(desk.lines(), model.past)
            things, claims = model.kept()
            self.assertEqual(desk.names, sorted(things))
            self.assertEqual(desk.labels, sorted(claims))
            self.assertEqual({name: desk[name] for name in things}, {name: kept for name, (_, kept) in things.items()})
            for label, words in claims.items():
                self.assertEqual(desk.claim_of(label), model.claim(things, words))

    def test_nothing_is_changed_by_a_failure(self):
        dice = random.Random(191)
        for _ in range(12):
            desk = Desk()
            for command in drawn_commands(dice, 50):
                before = snapshot(desk)
                told = outcome(lambda: desk.do(command))
                if isinstance(told, tuple):
                    self.assertEqual(snapshot(desk), before, command)

    def test_called(self):
        desk, other = shop(), shop()
        for command in ("states", "put b s 0 1", "undo", "undo", "names"):
            self.assertEqual(desk(command), other.do(command))
        self.assertEqual(desk(command="states"), other.do(command="states"))
        for wrong in ("x", None, 7, ["undo"], b"undo"):
            self.assertTrue(same(raised(self, errors.InvalidCommand, lambda: desk(wrong)).value, wrong))


class AnswersTest(unittest.TestCase):
    def test_the_examples(self):
        desk = Desk()
        told = desk.do_all(
            "store s 3:0,1;1,2/-", "board b 0,0,0", "claim k never s 0 1", "claim m never s 1 0", "put b s 0 0",
            "put b s 1 1", "show b", "sell s 1", "undo", "states",
        )
        self.assertEqual(told, [
            "-", "-", "k true", "m false", "-", "-", "1, 1, 0", "k false", "sell s 1", "k true, m false",
        ])
        told = desk.do_all("board w 2,1,0", "claim c comes s b w", "comes s w b", "unlay s 0", "drop w", "states")
        self.assertEqual(told, ["-", "c true", "no", "c false", "c gone", "c gone, k true, m false"])

    def check(self, desk, *pairs):
        for command, answer in pairs:
            self.assertEqual(desk.do(command), answer, command)

    def test_stores(self):
        self.check(
            Desk(), ("store s 4:2,1;0,1;1,2/3", "-"), ("show s", "4: 0,1; 1,2 / 3"), ("lay s 3,0", "-"),
            ("lay s 1,0", "-"),
            ("show s", "4: 0,1; 0,3; 1,2 / 3"), ("unlay s 0", "-"), ("show s", "4: 0,3; 1,2 / 3"), ("sell s 2,0", "-"),
            ("unsell s 1", "-"), ("show s", "4: 0,3; 1,2 / 0,2"), ("turn s 3,2,1,0", "-"),
            ("show s", "4: 0,3; 1,2 / 1,3"),
            ("lay s 3,2,1,0", "-"), ("lean l s", "-"), ("show l", "4: 0,3; 1,2 / 1,3"), ("beside d s s", "-"),
            ("show d", "8: 0,1,2,3; 0,3; 1,2; 4,5,6,7; 4,7; 5,6 / 1,3; 5,7"), ("names", "d l s"), ("same s s", "yes"),
            ("same s l", "no"), ("drop l", "-"), ("names", "d s"),
        )

    def test_boards(self):
        self.check(
            Desk(), ("names", "-"), ("store s 3:0,1;1,2/1,2", "-"), ("board b 0,0,0", "-"), ("put b s 0 1", "-"),
            ("put b s 0 0", "-"), ("put b s 0 1", "-"), ("show b", "1, 2, 0"), ("take b s 0 1", "-"),
            ("show b", "1, 1, 0"),
            ("play b s put1>2,take0>1,take0>2,miss0", "-"), ("show b", "1, 0, 0"), ("miss b s 0", "-"),
            ("play b s -", "-"),
            ("total s b", "1"), ("height s b", "1"), ("level s b 0", "0, 1, 2"), ("level s b 1", "0"),
            ("level s b 2", "-"),
            ("level s b 99", "-"), ("fullest s b", "yes"), ("board c 1,0,0", "-"), ("same b c", "yes"),
            ("put c s 1 2", "-"),
            ("same b c", "no"), ("comes s b c", "yes"), ("comes s c b", "no"), ("show c", "1, 0, 1"),
        )

    def test_weights_counts_and_numbers(self):
        self.check(
            Desk(), ("store s 3:0,1;1,2/-", "-"), ("weights w 1,-2,1", "-"), ("show w", "1, -2, 1"),
            ("below s w", "yes"),
            ("bound s w", "6"), ("greatest s w", "2"), ("weights v 1,-1,1", "-"), ("greatest s v", "none"),
            ("below s v", "no"), ("counts c -", "-"), ("show c", "-"), ("counts d 3,0", "-"), ("show d", "3, 0"),
            ("fewest s 0 1", "0"), ("fewest s 1 0", "1"), ("never s 0 1", "yes"), ("never s 1 0", "no"),
            ("flat s 0,1", "yes"), ("flat s 1,0", "yes"), ("flat s 0", "no"), ("flat s -", "yes"),
            ("weights z -1,0,-2", "-"), ("greatest s z", "0"), ("store t 3:0,1;1,2;0,1,2/1", "-"), ("lets s t", "yes"),
            ("store u 3:0,1/-", "-"), ("lets u s", "no"), ("same s u", "no"), ("same d d", "yes"), ("same c d", "no"),
            ("same w v", "no"), ("board b 0,0,0", "-"), ("board e 2,1,0", "-"), ("ends s b d e", "yes"),
            ("board f 3,0,0", "-"), ("ends s b d f", "no"),
        )

    def test_least_and_most_of_lists(self):
        desk = Desk()
        for at, (word, text) in enumerate((
            ("board", "0,60"), ("board", "60,0,0,0,0,0,0,60"), ("weights", "-999999,999999"),
            ("weights", "0,0,0,0,0,0,0,-1"),
            ("counts", "20"), ("counts", "20,0,0,0,0,0,0,20"), ("counts", "-"), ("store", "2:-/-"),
            ("store", "8:0;1;2;3;4;5;6;7/0;1;2;3;4;5;6;7"),
        )):
            self.assertEqual(desk.do(f"{word} n{at} {text}"), "-")
            self.assertEqual(desk.do(f"show n{at}").replace(" ", ""), text)

    def test_just_the_labels_whose_state_turned(self):
        self.check(
            Desk(), ("states", "-"), ("store s 3:0,1;1,2/-", "-"), ("claim z never s 0 1", "z true"),
            ("claim a above s 0 1", "a false"), ("claim m never s 0 2", "m false"), ("claim y never s 2 1", "y true"),
            ("sell s 1", "a true, y false, z false"), ("sell s 0", "-"),
            ("states", "a true, m false, y false, z false"),
            ("unsell s 1", "a false, y true, z true"), ("state m", "false"), ("state a", "false"),
            ("claimed a", "above s 0 1"), ("lay s 0", "a true, z false"), ("forget z", "-"),
            ("states", "a true, m false, y true"),
            ("drop s", "a gone, m gone, y gone"), ("state m", "gone"), ("board s 0,0,0", "-"), ("drop s", "-"),
            ("store s 2:0/-", "a true"), ("drop s", "a gone"), ("store s 3:-/-", "a false, m true, y true"),
            ("claimed m", "never s 0 2"), ("undo", "store s 3:-/-"), ("states", "a gone, m gone, y gone"),
            ("redo", "store s 3:-/-"), ("states", "a false, m true, y true"), ("forget y", "-"), ("undo", "forget y"),
            ("states", "a false, m true, y true"),
        )

    def test_each_claim_is_noted_and_told(self):
        desk = shop()
        desk.do_all("forget k", "forget l")
        for words, state in (
            ("never s 0 1", "true"), ("above s 0 1", "false"), ("below s x", "true"), ("without s x", "false"),
            ("comes s b w", "true"), ("barred s w b", "true"), ("ends s b c w", "true"), ("crowded s b c w", "false"),
            ("lets s t", "true"), ("parts t s", "false"), ("fullest s w", "true"), ("stuck s w", "false"),
        ):
            label = words.split(" ")[0]
            self.assertEqual(desk.do(f"claim {label} {words}"), f"{label} {state}")
            self.assertEqual(desk.do(f"claimed {label}"), words)
            self.assertEqual(desk.do(f"state {label}"), state)
        self.assertEqual(len(desk.labels), 12)
        self.assertEqual(
            desk.claim_of("ends"), ("ends", Store(3, [[0, 1], [1, 2]], []), [0, 0, 0], [3, 0], [2, 1, 0]),
        )
        self.assertEqual(desk.claim_of("never"), ("never", Store(3, [[0, 1], [1, 2]], []), 0, 1))

    def test_gone_and_back(self):
        desk = shop()
        self.check(
            desk, ("drop c", "l gone"), ("weights c 3,0,1", "-"), ("drop c", "-"), ("counts c 2,0", "-"),
            ("drop c", "-"),
            ("counts c 2,1", "l true"), ("put b s 0 0", "l gone"), ("put b s 0 1", "-"), ("undo", "put b s 0 1"),
            ("undo", "put b s 0 0"), ("state l", "true"), ("lay s 0", "k false, l gone"),
            ("unlay s 0", "k true, l true"),
        )
        self.assertEqual(desk.claim_of("l")[0], "ends")
        desk.do("drop b")
        self.assertIs(desk.claim_of("l"), None)

    def test_one_name_for_a_thing_and_a_label(self):
        self.check(
            Desk(), ("store k 2:0,1/-", "-"), ("claim k never k 0 1", "k true"), ("claimed k", "never k 0 1"),
            ("show k", "2: 0,1 / -"), ("lay k 0", "k false"), ("forget k", "-"), ("names", "k"),
            ("store never 2:-/-", "-"),
            ("claim never never never 0 1", "never true"), ("drop never", "never gone"), ("state never", "gone"),
        )


class ErrorsTest(unittest.TestCase):
    def check(self, desk, error, command, **attributes):
        before = snapshot(desk)
        caught = raised(self, error, lambda: desk.do(command))
        self.assertEqual(vars(caught), attributes, command)
        for value in vars(caught).values():
            self.assertTrue(same(value, attributes[[one for one in attributes if attributes[one] == value][0]]))
        self.assertEqual(snapshot(desk), before)

    def test_no_commands(self):
        desk = shop()
        for wrong in ANY_VALUES + NO_LISTS + NO_COUNTS + ("Undo", "undo ", "show", "put b s 0", "state", "do",
                                                          ["undo"]):
            before = desk.lines()
            self.assertTrue(same(raised(self, errors.InvalidCommand, lambda: desk.do(wrong)).value, wrong))
            self.assertEqual(desk.lines(), before)

    def test_taken_ahead_of_unknown(self):
        desk = shop()
        self.check(desk, errors.NameTaken, "store s 1:-/-", name="s")
        self.check(desk, errors.NameTaken, "board b 61", name="b")
        self.check(desk, errors.NameTaken, "counts s 21", name="s")
        self.check(desk, errors.NameTaken, "weights b 1", name="b")
        self.check(desk, errors.NameTaken, "beside s z y", name="s")
        self.check(desk, errors.NameTaken, "lean b z", name="b")
        self.check(desk, errors.LabelTaken, "claim k never z 0 0", label="k")
        self.check(desk, errors.LabelTaken, "claim l lets z y", label="l")

    def test_the_first_name_under_which_nothing_of_the_kind_is_kept(self):
        desk = shop()
        for command, name in (
            ("beside z y x", "y"), ("beside z s b", "b"), ("lean z b", "b"), ("lay b 0", "b"), ("sell z 9", "z"),
            ("unlay z 9", "z"), ("unsell x 9", "x"), ("turn c 0", "c"), ("put z y 0 0", "z"), ("put b y 0 0", "y"),
            ("put s b 0 0", "s"), ("take b b 0 0", "b"), ("miss c s 9", "c"), ("play b z -", "z"), ("play z s -", "z"),
            ("drop z", "z"), ("drop k", "k"), ("claim z never b 0 0", "b"), ("claim z below s b", "b"),
            ("claim z comes s b c", "c"), ("claim z comes z x y", "z"), ("claim z ends s b w w", "w"),
            ("claim z ends s b c c", "c"), ("claim z lets s b", "b"), ("claim z stuck s s", "s"), ("show z", "z"),
            ("show k", "k"), ("total b s", "b"), ("height s s", "s"), ("level s x 0", "x"), ("flat z 9", "z"),
            ("never c 0 0", "c"), ("below s c", "c"), ("comes s w x", "x"), ("ends s b c z", "z"), ("fullest s x", "x"),
            ("lets s c", "c"), ("bound s b", "b"), ("greatest x s", "x"), ("fewest b 0 0", "b"), ("same z s", "z"),
            ("same s b", "b"), ("same b c", "c"), ("same b x", "x"), ("same x c", "c"), ("same s z", "z"),
        ):
            self.check(desk, errors.UnknownName, command, value=name)

    def test_labels(self):
        desk = shop()
        for command in ("forget {}", "state {}", "claimed {}"):
            for label in ("z", "s", "b"):
                self.check(desk, errors.UnknownLabel, command.format(label), value=label)

    def test_nothing_to_take_back_or_to_do_again(self):
        desk = Desk()
        self.check(desk, errors.NothingToUndo, "undo")
        self.check(desk, errors.NothingToRedo, "redo")
        desk.do("store s 2:-/-")
        self.check(desk, errors.NothingToRedo, "redo")
        desk.do_all("undo", "redo")
        self.check(desk, errors.NothingToRedo, "redo")
        desk.do("undo")
        self.check(desk, errors.NothingToUndo, "undo")
        desk.do("store t 2:-/-")
        self.check(desk, errors.NothingToRedo, "redo")

    def test_errors_of_what_makes_it(self):
        desk, store = shop(), Store(3, [[0, 1], [1, 2]], [])
        self.check(desk, errors.InvalidShelves, "store z 9:9/-", value=9)
        self.check(desk, errors.InvalidDeliveries, "store z 3:2,0;1,1/9", value=[[2, 0], [1, 1]])
        self.check(desk, errors.InvalidSales, "store z 3:0/2,0;3", value=[[2, 0], [3]])
        self.check(desk, errors.InvalidDeliveries, "store z 2:0;0;0;0;0;0;0;0;0/-", value=[[0]] * 9)
        self.check(desk, errors.InvalidBoard, "board z 1", value=[1])
        self.check(desk, errors.InvalidBoard, "board z 1,2,3,4,5,6,7,8,9", value=[1, 2, 3, 4, 5, 6, 7, 8, 9])
        self.check(desk, errors.InvalidBoard, "board z 61,0", value=[61, 0])
        self.check(desk, errors.InvalidWeights, "weights z -1", value=[-1])
        self.check(desk, errors.InvalidWeights, "weights z 1,2,3,4,5,6,7,8,9", value=[1, 2, 3, 4, 5, 6, 7, 8, 9])
        self.check(desk, errors.InvalidCounts, "counts z 1,21", value=[1, 21])
        self.check(desk, errors.InvalidCounts, "counts z 1,2,3,4,5,6,7,8,9", value=[1, 2, 3, 4, 5, 6, 7, 8, 9])
        self.check(desk, errors.InvalidKind, "lay s 0,0", value=[0, 0])
        self.check(desk, errors.InvalidKind, "sell s 3", value=[3])
        self.check(desk, errors.InvalidPosition, "unlay s 2", value=2)
        self.check(desk, errors.InvalidPosition, "unsell s 0", value=0)
        self.check(desk, errors.InvalidOrder, "turn s 0,1", value=[0, 1])
        self.check(desk, errors.InvalidDeed, "put b s 0 2", value=("put", 0, 2))
        self.check(desk, errors.InvalidDeed, "take b s 0 1", value=("take", 0, 1))
        self.check(desk, errors.InvalidDeed, "miss b s 0", value=("miss", 0))
        self.check(desk, errors.NotCustom, "take b t 0 1")
        self.check(desk, errors.NotCustom, "put w s 0 0")
        self.check(desk, errors.NotCustom, "miss w t 0")
        self.check(desk, errors.InvalidHistory, "play b s put0>0,take0>1", value=[("put", 0, 0), ("take", 0, 1)])
        self.check(desk, errors.BarredAt, "play b s put0>0,put0>0", position=1)
        self.check(desk, errors.InvalidClaim, "claim z never s 0 0", value=("never", store, 0, 0))
        self.check(desk, errors.InvalidClaim, "claim z above s 0 3", value=("above", store, 0, 3))
        self.check(desk, errors.InvalidClaim, "claim z ends s w c b",
                   value=("ends", store, [2, 1, 0], [3, 0], [0, 0, 0]))
        desk.do_all("board two 0,0", "board full 60,60,60", "store wide 7:-/-", "weights y 1,1")
        self.check(desk, errors.InvalidBoard, "put two s 9 9", value=[0, 0])
        self.check(desk, errors.InvalidBoard, "play two s put9>9", value=[0, 0])
        self.check(desk, errors.TooMany, "put full s 0 0", what="pieces", limit=60)
        self.check(desk, errors.TooMany, "play full s put0>0", what="pieces", limit=60)
        self.check(desk, errors.TooMany, "beside z s wide", what="shelves", limit=8)
        self.check(desk, errors.InvalidClaim, "claim z comes s two b", value=("comes", store, [0, 0], [0, 0, 0]))
        self.check(desk, errors.InvalidClaim, "claim z below s y", value=("below", store, [1, 1]))
        self.check(desk, errors.InvalidClaim, "claim z lets s wide", value=("lets", store, Store(7, [], [])))
        for kind in ("0", "1", "2", "0,2", "0,1,2"):
            desk.do(f"lay s {kind}")
        desk.do("store more 4:0;1;2;3;0,1;1,2;2,3;0,3/-")
        self.check(desk, errors.TooMany, "lay more 0,2", what="kinds", limit=8)
        self.check(desk, errors.TooMany, "beside z more more", what="kinds", limit=8)

    def test_errors_of_what_tells_it(self):
        desk, store = shop(), Store(3, [[0, 1], [1, 2]], [])
        desk.do_all("board two 0,0", "weights y 1,-1,1", "weights v 1,1", "store wide 7:-/-", "counts d 1")
        self.check(desk, errors.InvalidBoard, "total s two", value=[0, 0])
        self.check(desk, errors.InvalidBoard, "height s two", value=[0, 0])
        self.check(desk, errors.InvalidBoard, "level s two 0", value=[0, 0])
        self.check(desk, errors.InvalidLot, "flat s 3", value=[3])
        self.check(desk, errors.InvalidLot, "flat s 1,1", value=[1, 1])
        self.check(desk, errors.InvalidShelf, "never s 3 0", value=3)
        self.check(desk, errors.InvalidShelf, "never s 1 1", value=1)
        self.check(desk, errors.InvalidShelf, "fewest s 0 9", value=9)
        self.check(desk, errors.InvalidWeights, "below s v", value=[1, 1])
        self.check(desk, errors.InvalidWeights, "bound s v", value=[1, 1])
        self.check(desk, errors.InvalidWeights, "greatest s v", value=[1, 1])
        self.check(desk, errors.NotBelow, "bound s y")
        self.check(desk, errors.InvalidBoard, "comes s two b", value=[0, 0])
        self.check(desk, errors.InvalidWished, "comes s b two", value=[0, 0])
        self.check(desk, errors.InvalidCounts, "ends s b d two", value=[1])
        self.check(desk, errors.InvalidWished, "ends s w c b", value=[0, 0, 0])
        self.check(desk, errors.InvalidWished, "fullest s two", value=[0, 0])
        self.check(desk, errors.UnlikeShelves, "lets s wide")
        self.assertEqual(desk["s"], store)

    def test_the_value_of_an_error_is_a_copy(self):
        desk = shop()
        desk.do("board two 0,0")
        raised(self, errors.InvalidBoard, lambda: desk.do("total s two")).value.append(7)
        self.assertEqual(desk["two"], [0, 0])
        raised(self, errors.InvalidClaim, lambda: desk.do("claim z comes s two b")).value[2].append(7)
        self.assertEqual(desk["two"], [0, 0])


class LimitsTest(unittest.TestCase):
    def full(self):
        desk = Desk()
        desk.do("store s 3:0,1;1,2/-")
        for at in range(11):
            desk.do(f"board b{at} {at},0,0")
        for at in range(12):
            desk.do(f"claim k{at} fullest s b{at % 11}")
        return desk

    def test_twelve_names(self):
        desk = self.full()
        self.assertEqual(len(desk.names), 12)
        for command in ("store z 2:-/-", "board z 0,0", "weights z 0,0", "counts z -", "beside z s s", "lean z s"):
            error = raised(self, errors.TooMany, lambda: desk.do(command))
            self.assertEqual(vars(error), {"what": "names", "limit": 12})
        for command, error in (
            ("store z 1:-/-", errors.InvalidShelves), ("board z 1", errors.InvalidBoard),
            ("lean z b1", errors.UnknownName),
            ("store s 2:-/-", errors.NameTaken), ("counts z 21", errors.InvalidCounts),
        ):
            raised(self, error, lambda: desk.do(command))
        for command in ("lay s 0", "put b0 s 2 2", "drop b1", "counts z -", "drop z"):
            desk.do(command)
        self.assertEqual(len(desk.names), 11)

    def test_twelve_labels(self):
        desk = self.full()
        self.assertEqual(len(desk.labels), 12)
        error = raised(self, errors.TooMany, lambda: desk.do("claim z fullest s b0"))
        self.assertEqual(vars(error), {"what": "labels", "limit": 12})
        for command, error in (
            ("claim k0 fullest s b0", errors.LabelTaken), ("claim z fullest s z", errors.UnknownName),
            ("claim z never s 0 0", errors.InvalidClaim),
        ):
            raised(self, error, lambda: desk.do(command))
        desk.do("forget k11")
        self.assertEqual(desk.do("claim k11 fullest s b10"), "k11 true")
        self.assertEqual(desk.labels, sorted(f"k{at}" for at in range(12)))

    def test_three_hundred_deeds(self):
        desk = self.full()
        while len(desk) < 300:
            desk.do("lay s 0")
        for command in ("lay s 0", "drop s", "forget k0", "play b0 s -"):
            error = raised(self, errors.TooMany, lambda: desk.do(command))
            self.assertEqual(vars(error), {"what": "deeds", "limit": 300})
        for command, what in (("store z 2:-/-", "names"), ("claim z fullest s b0", "labels")):
            self.assertEqual(raised(self, errors.TooMany, lambda: desk.do(command)).what, what)
        for command, error in (("lay s 7", errors.InvalidKind), ("drop z", errors.UnknownName),
                               ("redo", errors.NothingToRedo)):
            raised(self, error, lambda: desk.do(command))
        self.assertEqual(len(desk.lines()), 300)
        self.assertEqual(desk.do_all("undo", "undo", "redo", "redo"), ["lay s 0"] * 4)
        self.assertEqual(len(desk), 300)
        desk.do("undo")
        desk.do("drop b1")
        self.assertEqual((len(desk), desk.lines()[-1]), (300, "drop b1"))
        raised(self, errors.TooMany, lambda: desk.do("drop b2"))
        self.assertEqual(desk.do("undo"), "drop b1")
        self.assertEqual(len(Desk.again(desk.lines())), 299)


class BackTest(unittest.TestCase):
    def test_long_rows_of_undo_and_redo(self):
        dice = random.Random(192)
        for _ in range(8):
            desk = Desk()
            seen = [snapshot(desk)[:7]]
            for command in drawn_commands(dice, 120):
                before = len(desk)
                outcome(lambda: desk.do(command) if command not in ("undo", "redo") else None)
                if len(desk) > before:
                    seen.append(snapshot(desk)[:7])
            lines = desk.lines()
            at = len(lines)
            for _ in range(60):
                back = dice.random() < 0.5
                told = outcome(lambda: desk.do("undo" if back else "redo"))
                if (at == 0 and back) or (at == len(lines) and not back):
                    self.assertIs(told[0], errors.NothingToUndo if back else errors.NothingToRedo)
                else:
                    at += -1 if back else 1
                    self.assertEqual(told, lines[at if back else at - 1])
                self.assertEqual(snapshot(desk)[:7], seen[at])

    def test_a_deed_between(self):
        desk = shop()
        desk.do_all("put b s 0 0", "put b s 0 1", "undo", "undo", "redo")
        self.assertEqual(desk.do("redo"), "put b s 0 1")
        desk.do_all("undo", "names", "states", "show b")
        raised(self, errors.UnknownName, lambda: desk.do("drop z"))
        desk.attempt("drop b", "undo", "drop c")
        self.assertEqual(desk.do("redo"), "put b s 0 1")
        desk.do_all("undo", "put b s 1 1")
        raised(self, errors.NothingToRedo, lambda: desk.do("redo"))
        self.assertEqual(desk["b"], [1, 1, 0])


if __name__ == "__main__":
    unittest.main()
