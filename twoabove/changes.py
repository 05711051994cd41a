"""Changes of kinds: the fewest with which a shelf never stands two above another one, and what a kind takes away."""

from twoabove.aboves import blame, blamed, check_two, never_two_above
from twoabove.checks import check_kind, is_count_below, is_list
from twoabove.errors import InvalidChanges
from twoabove.stores import Store, check_store

MOST_CHANGES = 20


def changed(store, changes):
    """The Store that comes of the changes."""
    check_store(store)
    if not _are_changes(store, changes):
        raise InvalidChanges(changes)
    return Store(store.shelves, _kinds_behind(store, changes, "delivery"), _kinds_behind(store, changes, "sale"))


def fewest_changes(store, shelf, other):
    """The least number of changes with which the shelf never stands two above the other one."""
    return len(mending(store, shelf, other))


def mending(store, shelf, other):
    """As few changes as can be with which the shelf never stands two above the other one."""
    kept = _kept_beside(store, shelf, other)
    struck = _struck_out(store, shelf, other)
    if len(kept) <= len(struck):
        return kept
    return struck


def is_mending(store, shelf, other, value):
    """Whether any value is changes with which the shelf never stands two above the other one."""
    check_two(store, shelf, other)
    return _are_changes(store, value) and never_two_above(changed(store, value), shelf, other)


def lost_pairs(store, kind):
    """The sorted pairs of which the first never stands two above the second, but may with a further delivery kind."""
    check_store(store)
    check_kind(store.shelves, kind)
    return _lost(store, store.deliveries() + [list(kind)], store.sales())


def lost_by_sale(store, kind):
    """The sorted pairs of which the first never stands two above the second, but may with a further sale kind."""
    check_store(store)
    check_kind(store.shelves, kind)
    return _lost(store, store.deliveries(), store.sales() + [list(kind)])


def _lost(store, deliveries, sales):
    # No Store is made of these kinds: there may be one more than a store has.
    shelves = list(range(store.shelves))
    pairs = [(shelf, other) for shelf in shelves for other in shelves if shelf != other]
    return [
        (shelf, other) for shelf, other in pairs
        if never_two_above(store, shelf, other) and blamed(deliveries, sales, shelf, other) != ([], [])
    ]


def _kept_beside(store, shelf, other):
    # The other one is put beside the shelf wherever something comes, the shelf beside the other one wherever it goes.
    deliveries, sales = blame(store, shelf, other)
    puts = [("in", "delivery", position, other) for position in deliveries]
    return puts + [("in", "sale", position, shelf) for position in sales]


def _struck_out(store, shelf, other):
    # Nothing comes to the shelf any more; where it stands alone the other one takes its place.
    kinds = store.deliveries()
    puts = [("in", "delivery", position, other) for position, kind in enumerate(kinds) if kind == [shelf]]
    return puts + [("out", "delivery", position, shelf) for position, kind in enumerate(kinds) if shelf in kind]


def _kinds(store, sort):
    if sort == "delivery":
        return store.deliveries()
    return store.sales()


def _are_changes(store, value):
    if not is_list(value) or len(value) > MOST_CHANGES:
        return False
    if not all([_is_change(store, change) for change in value]) or len(set(value)) != len(value):
        return False
    kinds = _kinds_behind(store, value, "delivery") + _kinds_behind(store, value, "sale")
    return [] not in kinds


def _is_change(store, value):
    if not isinstance(value, tuple) or len(value) != 4:
        return False
    way, sort, position, shelf = value
    if way not in ("in", "out") or sort not in ("delivery", "sale"):
        return False
    kinds = _kinds(store, sort)
    if not is_count_below(position, len(kinds)) or not is_count_below(shelf, store.shelves):
        return False
    return (shelf in kinds[position]) == (way == "out")


def _kinds_behind(store, changes, sort):
    kinds = []
    for position, kind in enumerate(_kinds(store, sort)):
        puts = [shelf for shelf in range(store.shelves) if ("in", sort, position, shelf) in changes]
        kinds.append([shelf for shelf in kind if ("out", sort, position, shelf) not in changes] + puts)
    return kinds
