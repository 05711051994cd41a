"""What the tests share: wrong values of every kind, checks of parameters, and plain second ways to the answers."""

import copy
import random
from itertools import combinations, product

from twoabove.stores import Store

NO_LISTS = (
    None, True, False, 0, 1, -1, 10 ** 29, "", "0", "01", "lay", b"", b"\x00", {}, {0: 1}, {0}, frozenset(),
    object(), int, len, range(2), Store(2, [[0]], []),
)
NO_COUNTS = (
    None, True, False, -1, -(10 ** 29), "", "0", "1", b"0", [], [0], (), (0,), {}, {0: 0}, {0}, object(), int,
    Store(2, [[0]], []),
)
NO_STORES = tuple(value for value in NO_LISTS if not isinstance(value, Store)) + (
    Store, [], (), [2, [], []], (2, [], []), [Store(2, [], [])],
)
NO_TUPLES = NO_LISTS + ([], ["put", 0, 0], ["lay", 0])
ANY_VALUES = NO_LISTS + NO_COUNTS + (
    [], (), [[]], [()], ([],), [[0]], [[True]], [0, 1], (0, 1), [0, 0], [None], ["0"], [[], [0], [0, 1]], [[[0]]],
    [("lay", 0)], [("off", 0)], (("lay", 0),), [["lay", 0]], ("lay", 0), ("put", 0, 0), {"lay": 0}, [{}], [set()],
    [Store(3, [], [])], [[Store(3, [], [])]], [("lay", Store(3, [], []))], [(Store(3, [], []), 0)],
)


def wrong_lots(shelves):
    """No lots of so many shelves."""
    return NO_LISTS + (
        [True], [False], [0, True], [shelves], (0, shelves), [-1], [0, 0], (1, 0, 1), [[0]], ["0"], [None], [0, None],
        [{}], [{0}], [[]], [10 ** 29], [Store(2, [], [])],
    )


def wrong_kinds(shelves):
    """No kinds of so many shelves."""
    return wrong_lots(shelves) + ([], ())


def wrong_orders(shelves):
    """No orders of so many shelves."""
    whole = list(range(shelves))
    return wrong_kinds(shelves) + (
        whole[1:], whole[:-1], whole[:-1] + [0], whole + [0], whole + [shelves], [shelf + 1 for shelf in whole],
        [False] + whole[1:], [0, True] + whole[2:],
    )


def wrong_boards(shelves):
    """No boards of so many shelves."""
    return NO_LISTS + (
        [], (), [0] * (shelves - 1), [0] * (shelves + 1), [61] + [0] * (shelves - 1), [0] * (shelves - 1) + [61],
        [-1] + [0] * (shelves - 1), [True] + [0] * (shelves - 1), (0,) * (shelves - 1) + (False,), [None] * shelves,
        ["0"] * shelves, [[0]] * shelves, "0" * shelves, [10 ** 29] * shelves,
    )


def wrong_weights(shelves):
    """No weights of so many shelves."""
    return NO_LISTS + (
        [], (), [0] * (shelves - 1), [1] * (shelves + 1), [True] + [0] * (shelves - 1), (0,) * (shelves - 1) + (False,),
        [None] * shelves, ["0"] * shelves, [[0]] * shelves, "0" * shelves, [b"0"] * shelves, [{}] * shelves,
    )


def wrong_counts(kinds):
    """No counts of so many delivery kinds."""
    whole = [1] * kinds
    wrongs = NO_LISTS + (
        whole + [0], whole + [1, 1], [None] * (kinds + 1), [0] * 9, {at: 0 for at in range(kinds)}, "1" * kinds,
    )
    if kinds:
        firsts = (21, -1, True, False, None, "1", [1], (1,), {}, 10 ** 29, Store(2, [], []))
        wrongs += tuple([first] + whole[1:] for first in firsts) + tuple(whole[1:] + [first] for first in firsts)
        wrongs += ([], (), whole[1:], [whole])
    return wrongs


def wrong_positions(many):
    """No positions among so many kinds."""
    return NO_COUNTS + (many, many + 1, 10 ** 29)


def wrong_shelves(shelves, *others):
    """No shelves of so many, or none but these others."""
    return wrong_positions(shelves) + others


def same(first, second):
    """Whether both are of one kind and equal."""
    return first is second or (type(first) is type(second) and first == second)


def raised(test, error, call):
    """The error of just this class that the call raises."""
    try:
        answer = call()
    except Exception as caught:
        test.assertIs(type(caught), error, repr(caught))
        return caught
    test.fail(f"{error.__name__} is not raised; told is {answer!r}")


def check_parameters(test, function, *parameters):
    """Each parameter is (name, good value, error or None, wrong values): the first wrong one decides, named or not."""
    names = [name for name, _, _, _ in parameters]
    goods = [good for _, good, _, _ in parameters]
    before = copy.deepcopy(goods)
    answer = function(*goods)
    test.assertEqual(function(**dict(zip(names, goods))), answer)
    test.assertEqual(function(goods[0], **dict(zip(names[1:], goods[1:]))), answer)
    for good, kept in zip(goods, before):
        test.assertTrue(same(good, kept), f"{function.__name__} changed {kept!r} to {good!r}")
    for at, (name, _, error, wrongs) in enumerate(parameters):
        if error is None:
            continue
        for wrong in wrongs:
            _check_wrong(test, function, parameters, at, wrong)


def _check_wrong(test, function, parameters, at, wrong):
    name, _, error, _ = parameters[at]
    ahead = [good for _, good, _, _ in parameters[:at]]
    behind = parameters[at + 1:]
    followers = [[good for _, good, _, _ in behind]]
    followers.append([wrongs[0] if kind else good for _, good, kind, wrongs in behind])
    followers.append([wrongs[-1] if kind else good for _, good, kind, wrongs in behind])
    for follower in followers:
        values = ahead + [wrong] + follower
        by_name = dict(zip([told for told, _, _, _ in parameters], values))
        for call in (lambda: function(*values), lambda: function(**by_name)):
            with test.subTest(function=function.__name__, name=name, wrong=wrong, behind=follower):
                caught = raised(test, error, call)
                test.assertEqual(list(vars(caught)), ["value"])
                test.assertTrue(same(caught.value, wrong), f"{caught.value!r} is not {wrong!r}")


def check_judge(test, judge, *trues):
    """A judge of any value tells a bool of every value: True of these, False of what is of none of the kinds."""
    for value in ANY_VALUES:
        kept = copy.deepcopy(value) if isinstance(value, (list, tuple)) else value
        test.assertIsInstance(judge(value), bool, repr(value))
        if isinstance(value, (list, tuple)) and "Store" not in repr(value):
            test.assertEqual(value, kept)
    for value in trues:
        test.assertIs(judge(value), True, repr(value))
    for value in NO_LISTS:
        if not any(same(value, told) for told in trues):
            test.assertIs(judge(value), False, repr(value))


def all_lots(shelves):
    """All lots of so many shelves, rising."""
    return [list(lot) for many in range(shelves + 1) for lot in combinations(range(shelves), many)]


def all_kinds(shelves):
    """All kinds of so many shelves, rising."""
    return all_lots(shelves)[1:]


def all_small_stores():
    """All Stores of two shelves."""
    kinds = all_kinds(2)
    picks = [list(pick) for many in range(4) for pick in combinations(kinds, many)]
    return [Store(2, deliveries, sales) for deliveries in picks for sales in picks]


def some_stores(shelves, many, seed):
    """So many Stores of so many shelves, always the same ones."""
    dice = random.Random(seed)
    kinds = all_kinds(shelves)
    stores = []
    for _ in range(many):
        deliveries = dice.sample(kinds, dice.randint(0, min(5, len(kinds))))
        sales = dice.sample(kinds, dice.randint(0, min(5, len(kinds))))
        stores.append(Store(shelves, deliveries, sales))
    return stores


def all_boards(shelves, most):
    """All boards of so many shelves that hold at most so many pieces each."""
    return [list(board) for board in product(range(most + 1), repeat=shelves)]


def all_rows(store, most):
    """All rows of at most so many steps."""
    steps = [("lay", at) for at in range(len(store.deliveries()))] + [("off", at) for at in range(len(store.sales()))]
    return [list(row) for many in range(most + 1) for row in product(steps, repeat=many)]


def searched(start, behind):
    """All boards that come of a start, as tuples, if these boards come behind one."""
    found, waiting = {tuple(start)}, [tuple(start)]
    while waiting:
        for board in behind(waiting.pop()):
            if tuple(board) not in found:
                found.add(tuple(board))
                waiting.append(tuple(board))
    return found


def changed_at(board, shelf, pieces):
    """The board with so many pieces more on the shelf."""
    return tuple(held + pieces if one == shelf else held for one, held in enumerate(board))


def second_puts(store, board, most):
    """The boards behind a delivery of whatever kind, none higher than that."""
    return [changed_at(board, shelf, 1) for kind in store.deliveries() for shelf in kind
            if board[shelf] < most and all(board[shelf] <= board[one] for one in kind)]


def second_takes(store, board):
    """The boards behind a sale of whatever kind that takes a piece."""
    return [changed_at(board, shelf, -1) for kind in store.sales() for shelf in kind
            if board[shelf] and all(board[shelf] >= board[one] for one in kind)]


def come_from(store, board, most):
    """All boards that come from the board by deliveries alone, none higher than that."""
    return searched(board, lambda one: second_puts(store, one, most))


def go_from(store, board):
    """All boards that the board goes to by sales alone."""
    return searched(board, lambda one: second_takes(store, one))


def behind_all(store, most):
    """All boards behind histories from the empty board on which no board is higher than that."""
    return searched([0] * store.shelves, lambda one: second_puts(store, one, most) + second_takes(store, one))


def second_ends(store, board, counts):
    """All boards that come of just these deliveries, in all orders and by all choices, sorted."""
    kinds = store.deliveries()

    def behind(state):
        board, counts = state[:store.shelves], state[store.shelves:]
        return [
            changed_at(board, shelf, 1) + changed_at(counts, position, -1)
            for position, kind in enumerate(kinds) if counts[position]
            for shelf in kind if all(board[shelf] <= board[one] for one in kind)
        ]

    states = searched(tuple(board) + tuple(counts), behind)
    return sorted(list(state[:store.shelves]) for state in states if not any(state[store.shelves:]))


def second_row_lot(store, row):
    """The lot that a row ends with, by the last step that names each shelf."""
    lot = []
    for shelf in range(store.shelves):
        words = [word for word, position in row
                 if shelf in (store.deliveries() if word == "lay" else store.sales())[position]]
        if words and words[-1] == "lay":
            lot.append(shelf)
    return lot


def second_closure(store, lots):
    """The closure of lots, grown round by round in numbers whose bits tell the shelves."""
    lays = [sum(1 << shelf for shelf in kind) for kind in store.deliveries()]
    offs = [sum(1 << shelf for shelf in kind) for kind in store.sales()]
    family = {0} | {sum(1 << shelf for shelf in lot) for lot in lots}
    while True:
        grown = family | {lot | kind for lot in family for kind in lays}
        grown |= {lot & ~kind for lot in grown for kind in offs}
        if grown == family:
            return sorted([shelf for shelf in range(store.shelves) if lot >> shelf & 1] for lot in family)
        family = grown
