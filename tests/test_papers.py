"""Papers that are kept with labels, rows of commands, copies of desks and trials: what desk.py tells of them."""

import copy
import random
import unittest

from tests.desk_model import Model
from tests.helpers import ANY_VALUES, NO_COUNTS, NO_LISTS, raised, same
from tests.test_desk import drawn_commands, outcome, row, shop, snapshot
from twoabove import errors
from twoabove.claims import contrary, is_paper_of, paper_of
from twoabove.desk import Desk, Trial, tried
from twoabove.stores import Store

WRONG_NAMES = ANY_VALUES + NO_LISTS + NO_COUNTS + ("z", "", "S", " s", "s ", "abcdefghi", b"s", ["s"], ("s",), {"s": 1})


class Sudden(Exception):
    """What leaves a block in these tests."""


def paper_for(claim):
    """A paper of the claim or of its contrary, None where neither has one."""
    papers = [paper_of(claim), paper_of(contrary(claim))]
    return [paper for paper in papers if paper is not None][0] if papers != [None, None] else None


class KeptTest(unittest.TestCase):
    def test_what_is_kept_and_noted(self):
        desk = shop()
        self.assertEqual(desk.names, ["b", "c", "s", "t", "w", "x"])
        self.assertEqual(desk.labels, ["k", "l"])
        self.assertEqual(len(desk), 8)
        self.assertEqual(desk["s"], Store(3, [[0, 1], [1, 2]], []))
        self.assertEqual([desk["b"], desk["x"], desk["c"]], [[0, 0, 0], [1, -2, 1], [3, 0]])
        self.assertEqual(desk.claim_of("k"), ("never", desk["s"], 0, 1))
        self.assertTrue("s" in desk and "c" in desk and "k" not in desk)
        empty = Desk()
        self.assertEqual((empty.names, empty.labels, len(empty), empty.lines(), "s" in empty), ([], [], 0, [], False))

    def test_wrong_names_and_labels(self):
        desk = shop()
        for wrong in WRONG_NAMES + ("k", "l"):
            self.assertIs(wrong in desk, False)
            self.assertTrue(same(raised(self, errors.UnknownName, lambda: desk[wrong]).value, wrong))
        for wrong in WRONG_NAMES + ("b", "c"):
            if isinstance(wrong, str) and wrong in desk.labels:
                continue
            for call in (
                lambda: desk.claim_of(wrong), lambda: desk.fits(wrong), lambda: desk.attach(wrong, [("lay", 0)]),
                lambda: desk.claim_of(label=wrong), lambda: desk.fits(label=wrong),
                lambda: desk.attach(paper=wrong, label=wrong),
            ):
                error = raised(self, errors.UnknownLabel, call)
                self.assertEqual(list(vars(error)), ["value"])
                self.assertTrue(same(error.value, wrong))

    def test_told_is_new(self):
        desk = shop()
        desk.names.append("z")
        desk.labels.clear()
        desk.lines().clear()
        desk["b"].append(7)
        desk["x"][0] = 7
        desk.claim_of("l")[2].append(7)
        desk.claim_of("l")[3].clear()
        self.assertEqual(snapshot(desk), snapshot(shop()))

    def test_not_iterated_over(self):
        self.assertRaises(TypeError, lambda: list(shop()))
        for name in ("names", "labels"):
            with self.assertRaises(AttributeError):
                setattr(shop(), name, [])


class AttachTest(unittest.TestCase):
    def test_a_paper_of_the_claim_or_of_its_contrary(self):
        desk = shop()
        desk.do_all("claim a above s 1 0", "claim n never s 2 0", "claim p parts s t", "claim q lets t s")
        self.assertIs(desk.fits("a"), False)
        self.assertIs(desk.attach("a", [("lay", 1)]), None)
        self.assertIs(desk.fits("a"), True)
        desk.attach("n", (("lay", 1),))
        self.assertIs(desk.fits("n"), True)
        desk.attach(label="l", paper=[[(0, 0), (0, 1), (1, 0)], []])
        self.assertIs(desk.fits(label="l"), True)
        for label, wrong in (("k", [("lay", 0)]), ("k", []), ("k", None), ("p", ([0, 0, 0], [0, 0, 0])), ("q", None)):
            self.assertIs(raised(self, errors.InvalidPaper, lambda: desk.attach(label, wrong)).value, wrong)
            self.assertIs(desk.fits(label), False)
        self.assertEqual(len(desk), 12)

    def test_in_the_place_of_one_that_was_kept(self):
        desk = shop()
        desk.do("claim a above s 1 0")
        desk.attach("a", [("lay", 1)])
        for wrong in ([("lay", 0)], [["lay", 1]], [], None, 0, {}):
            raised(self, errors.InvalidPaper, lambda: desk.attach("a", wrong))
            self.assertIs(desk.fits("a"), True)
        desk.attach("a", [("lay", 1), ("lay", 1)])
        desk.do("lay s 2")
        self.assertIs(desk.fits("a"), True)
        desk.do("lay s 0,2")
        self.assertIs(desk.fits("a"), False)

    def test_fits_behind_changes(self):
        desk = shop()
        desk.do("claim a above s 1 0")
        desk.attach("a", [("lay", 1)])
        desk.do("lay s 0")
        self.assertEqual((desk.do("state a"), desk.fits("a")), ("true", False))
        desk.attach("a", [("lay", 2)])
        self.assertIs(desk.fits("a"), True)
        desk.do("undo")
        self.assertIs(desk.fits("a"), False)
        desk.do("redo")
        self.assertIs(desk.fits("a"), True)
        desk.do("drop s")
        self.assertIs(desk.fits("a"), False)
        self.assertIs(raised(self, errors.InvalidPaper, lambda: desk.attach("a", [("lay", 2)])).value[0][1], 2)
        desk.do("store s 3:0,1;1,2;2/-")
        self.assertIs(desk.fits("a"), False)
        desk.do("unlay s 2")
        desk.do("lay s 0")
        self.assertIs(desk.fits("a"), True)
        desk.do("unlay s 0")
        self.assertIs(desk.fits("a"), False)

    def test_it_stays_where_the_label_is_noted_again(self):
        desk = shop()
        desk.do("claim a above s 1 0")
        desk.attach("a", [("lay", 1)])
        desk.do("forget a")
        raised(self, errors.UnknownLabel, lambda: desk.fits("a"))
        raised(self, errors.UnknownLabel, lambda: desk.attach("a", [("lay", 1)]))
        for words, fits in (
            ("above s 1 0", True), ("never s 1 0", False), ("above s 2 0", False), ("above t 1 0", False),
            ("above s 1 0", True),
        ):
            desk.do(f"claim a {words}")
            self.assertIs(desk.fits("a"), fits, words)
            desk.do("forget a")
        desk.do("undo")
        self.assertIs(desk.fits("a"), True)

    def test_the_word_of_the_contrary(self):
        desk = shop()
        desk.do("claim a never s 1 0")
        desk.attach("a", [("lay", 1)])
        self.assertEqual((desk.do("state a"), desk.fits("a")), ("false", True))
        desk.do("forget a")
        desk.do("claim a above s 1 0")
        self.assertEqual((desk.do("state a"), desk.fits("a")), ("true", False))
        desk.do_all("forget a", "claim b comes s b w")
        desk.attach("b", [(0, 0), (1, 0)])
        self.assertIs(desk.fits("b"), True)
        desk.do_all("drop w", "board w 3,1,0")
        self.assertEqual((desk.do("state b"), desk.fits("b")), ("false", False))
        desk.attach("b", (0, (1,)))
        self.assertIs(desk.fits("b"), True)
        desk.do_all("undo", "undo")
        self.assertEqual((desk.do("state b"), desk.fits("b")), ("true", False))
        desk.do_all("redo", "redo")
        self.assertIs(desk.fits("b"), True)

    def test_it_is_no_deed(self):
        desk = shop()
        desk.do_all("claim a above s 1 0", "lay s 0", "undo")
        before = snapshot(desk)
        desk.attach("a", [("lay", 1)])
        behind = snapshot(desk)
        self.assertEqual((behind[:7], behind[8:]), (before[:7], before[8:]))
        self.assertEqual(desk.do("redo"), "lay s 0")
        self.assertEqual(desk.do_all("undo", "undo"), ["lay s 0", "claim a above s 1 0"])
        desk.do("redo")
        self.assertIs(desk.fits("a"), True)

    def test_what_is_attached_is_copied(self):
        desk = shop()
        desk.do("claim m below s x")
        paper = paper_of(desk.claim_of("m"))
        desk.attach("m", paper)
        dealt = [[(0, 0), (0, 1), (1, 0)], []]
        desk.attach("l", dealt)
        paper[1].append(9)
        paper.clear()
        dealt[0].clear()
        self.assertEqual((desk.fits("m"), desk.fits("l")), (True, True))

    def test_any_paper(self):
        desk = shop()
        for label in desk.labels:
            for value in ANY_VALUES + NO_LISTS:
                error = raised(self, errors.InvalidPaper, lambda: desk.attach(label, value))
                self.assertEqual(list(vars(error)), ["value"])
                self.assertTrue(same(error.value, value))

    def test_behind_drawn_commands(self):
        dice = random.Random(200)
        for _ in range(40):
            desk, papers = Desk(), {}
            for command in drawn_commands(dice, 60):
                outcome(lambda: desk.do(command))
                for label in desk.labels:
                    claim, words = desk.claim_of(label), desk.do(f"claimed {label}")
                    if dice.random() < 0.2:
                        self.attach_one(dice, desk, papers, label, claim, words)
                    kept = papers.get(label)
                    good = claim is not None and kept is not None and kept[0] == words and (
                        is_paper_of((kept[1], *claim[1:]), kept[2]))
                    self.assertIs(desk.fits(label), good)

    def attach_one(self, dice, desk, papers, label, claim, words):
        paper = dice.choice(([], [("lay", 0)], [0])) if claim is None or dice.random() < 0.3 else paper_for(claim)
        proven = [one for one in (claim, contrary(claim)) if is_paper_of(one, paper)] if claim else []
        if proven:
            desk.attach(label, paper)
            papers[label] = (words, proven[0][0], copy.deepcopy(paper))
        else:
            self.assertTrue(same(raised(self, errors.InvalidPaper, lambda: desk.attach(label, paper)).value, paper))


class RowsTest(unittest.TestCase):
    def test_do_all(self):
        desk = shop()
        self.assertEqual(desk.do_all(), [])
        self.assertEqual(desk.do_all("put b s 0 1", "show b", "undo"), ["l gone", "0, 1, 0", "put b s 0 1"])
        for commands, position, cause in (
            (("drop b", "drop b"), 1, errors.UnknownName), (("x",), 0, errors.InvalidCommand),
            (("drop b", "undo", "undo", "undo", None), 4, errors.InvalidCommand),
            (("put b s 0 0", "put b s 0 0"), 1, errors.NotCustom), (("store z 9:-/-",), 0, errors.InvalidShelves),
            (("forget k", "state k"), 1, errors.UnknownLabel), (("redo", "redo"), 1, errors.NothingToRedo),
            (("claim z never s 0 0",), 0, errors.InvalidClaim), (("play b s put0>0,put0>0",), 0, errors.BarredAt),
            (("names", "claim k lets s t"), 1, errors.LabelTaken), (("board b 0,0",), 0, errors.NameTaken),
            (("drop x",) + ("undo",) * 11, 10, errors.NothingToUndo),
            (("beside z s t", "beside y z s"), 1, errors.TooMany),
            (("lets s t", "greatest s x", "bound s x", "weights y 1,-1,1", "bound s y"), 4, errors.NotBelow),
        ):
            before = snapshot(desk)
            error = raised(self, errors.CommandFailed, lambda: desk.do_all(*commands))
            self.assertEqual(vars(error), {"position": position}, commands)
            self.assertIs(type(error.__cause__), cause)
            self.assertEqual(snapshot(desk), before)
            error = raised(self, errors.CommandFailed, lambda: desk.attempt(*commands))
            self.assertEqual((error.position, type(error.__cause__)), (position, cause))
            self.assertEqual(snapshot(desk), before)
        self.assertEqual(vars(outcome_of(desk, "lay s 0,0").__cause__), {"value": [0, 0]})

    def test_attempt(self):
        desk = shop()
        desk.do_all("put b s 0 0", "undo")
        before = snapshot(desk)
        self.assertEqual(desk.attempt(), [])
        self.assertEqual(desk.attempt("drop b", "undo", "drop c", "names"), ["l gone", "drop b", "l gone", "b s t w x"])
        self.assertEqual(desk.attempt("forget k", "claim k above s 0 1"), ["-", "k false"])
        self.assertEqual(snapshot(desk), before)
        self.assertEqual(desk.do("redo"), "put b s 0 0")

    def test_against_one_by_one(self):
        dice = random.Random(201)
        for _ in range(150):
            desk, model = Desk(), Model()
            commands = drawn_commands(dice, 4)
            told = outcome(lambda: desk.do_all(*commands))
            answers = []
            for position, command in enumerate(commands):
                answers.append(outcome(lambda: model.do(command)))
                if isinstance(answers[-1], tuple):
                    self.assertEqual(told[:2], (errors.CommandFailed, {"position": position}))
                    self.assertEqual(told[2:], answers[-1][:2])
                    self.assertEqual(snapshot(desk), snapshot(Desk()))
                    break
            else:
                self.assertEqual(told, answers)
                self.assertEqual(desk.lines(), model.past)


def outcome_of(desk, *commands):
    """The CommandFailed that the commands raise."""
    try:
        desk.do_all(*commands)
    except errors.CommandFailed as error:
        return error


class CopiesTest(unittest.TestCase):
    def test_a_copy_goes_on_by_itself(self):
        desk = shop()
        desk.do_all("claim a above s 1 0", "put b s 0 0", "put b s 0 1", "undo")
        desk.attach("a", [("lay", 1)])
        before = snapshot(desk)
        other = desk.copy()
        self.assertIs(type(other), Desk)
        self.assertEqual(snapshot(other), before)
        other.do_all("redo", "drop t", "forget k")
        other.attach("a", [("lay", 1)])
        self.assertEqual(snapshot(desk), before)
        behind = snapshot(other)
        desk.do_all("undo", "undo", "drop x")
        self.assertEqual(snapshot(other), behind)
        self.assertIs(other.fits("a"), True)
        self.assertEqual(row(shop().copy(), "undo"), row(shop(), "undo"))

    def test_again(self):
        dice = random.Random(202)
        for _ in range(30):
            desk = Desk()
            for command in drawn_commands(dice, 50):
                outcome(lambda: desk.do(command))
            other = Desk.again(desk.lines())
            self.assertEqual(snapshot(other)[:7], snapshot(desk)[:7])
            self.assertEqual(snapshot(Desk.again(lines=tuple(desk.lines())))[:7], snapshot(desk)[:7])
            raised(self, errors.NothingToRedo, lambda: other.do("redo"))
        self.assertEqual(snapshot(Desk.again([])), snapshot(Desk()))
        self.assertIs(type(Desk.again(())), Desk)

    def test_wrong_lines(self):
        for wrong in NO_LISTS + ("undo", {0: "drop s"}):
            error = raised(self, errors.InvalidLines, lambda: Desk.again(wrong))
            self.assertEqual(vars(error), {"position": None})
        for wrong in ANY_VALUES + ("undo", "redo", "names", "states", "show s", "store s 2:-/- ", "never s 0 1", "x",
                                   ""):
            for lines in ([wrong], ("drop s", wrong), ["store s 2:-/-", "drop s", wrong, "x"]):
                error = raised(self, errors.InvalidLines, lambda: Desk.again(lines))
                self.assertEqual(vars(error), {"position": [one is wrong for one in lines].index(True)})

    def test_lines_that_fail(self):
        for lines, position, cause in (
            (["drop s"], 0, errors.UnknownName), (["store s 2:-/-", "store s 2:-/-"], 1, errors.NameTaken),
            (["store s 2:0/-", "board b 0,0", "put b s 0 0", "put b s 0 1"], 3, errors.InvalidDeed),
        ):
            error = raised(self, errors.CommandFailed, lambda: Desk.again(lines))
            self.assertEqual((vars(error), type(error.__cause__)), ({"position": position}, cause))

    def test_again_of_a_desk(self):
        self.assertEqual(snapshot(shop().again(["store z 2:-/-"])), snapshot(Desk.again(["store z 2:-/-"])))


class TrialTest(unittest.TestCase):
    def prepared(self):
        desk = shop()
        desk.do_all("claim a above s 1 0", "put b s 0 0", "put b s 0 1", "undo")
        desk.attach("a", [("lay", 1)])
        return desk

    def use(self, desk):
        desk.do_all("redo", "undo", "undo", "lay s 0", "drop w", "forget k", "claim z lets s t")
        desk.attach("a", [("lay", 2)])
        return desk.lines()

    def test_all_is_as_it_was(self):
        desk = self.prepared()
        before = snapshot(desk)
        with Trial(desk) as held:
            self.assertIs(held, desk)
            self.use(held)
            self.assertEqual(held.do("states"), "a true, l gone, z true")
        self.assertEqual(snapshot(desk), before)
        self.assertEqual(desk.do("redo"), "put b s 0 1")

    def test_an_error_goes_on(self):
        desk = self.prepared()
        before = snapshot(desk)
        for kind in (Sudden, ValueError, KeyError):
            with self.assertRaises(kind):
                with Trial(desk=desk):
                    self.use(desk)
                    raise kind("it")
            self.assertEqual(snapshot(desk), before)
        with self.assertRaises(errors.UnknownName):
            with Trial(desk) as held:
                held.do("drop b")
                held.do("drop b")
        self.assertEqual(snapshot(desk), before)

    def test_within_each_other_and_again(self):
        desk = self.prepared()
        before, trial = snapshot(desk), Trial(desk)
        for _ in range(3):
            with trial as held:
                held.do_all("redo", "drop c", "undo")
                inner = snapshot(desk)
                with Trial(desk):
                    self.use(desk)
                self.assertEqual(snapshot(desk), inner)
            self.assertEqual(snapshot(desk), before)
        desk.do("drop c")
        with trial:
            desk.do("undo")
        self.assertNotIn("c", desk)

    def test_tried(self):
        desk = self.prepared()
        before = snapshot(desk)
        self.assertEqual(tried(desk, self.use), tried(desk=desk, action=lambda held: self.use(held)))
        self.assertEqual(tried(desk, self.use)[-1], "claim z lets s t")
        self.assertIs(tried(desk, lambda held: held), desk)
        self.assertIs(tried(desk, lambda held: None), None)
        with self.assertRaises(Sudden):
            tried(desk, self.leave)
        self.assertEqual(snapshot(desk), before)

    def leave(self, desk):
        self.use(desk)
        raise Sudden("it")


if __name__ == "__main__":
    unittest.main()
