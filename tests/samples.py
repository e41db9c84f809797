"""Runs and odd objects that the tests share, and plain counts by all orders of the events."""

import itertools
import random

from postways.desk import Desk
from postways.errors import InvalidRows, NothingToUndo, PostError, Refused
from postways.plans import Plan
from postways.posts import Post
from postways.runs import Run, is_rows

EXAMPLE = {
    "a": [("send", "x", "b"), ("send", "y", "c")],
    "b": [("take", "x"), ("send", "z", "c")],
    "c": [("take", "z"), ("take", "y")],
}
# x lies, d is idle, e has an empty row but a letter was sent to it, parties and letters share words
MIXED = {
    "a": [("send", "x", "b"), ("send", "a", "c")],
    "b": [("send", "c", "a")],
    "c": [("take", "a"), ("send", "e", "e")],
    "d": [],
    "e": [],
}


# x goes round by b and is late behind what b sends then
LATE = {
    "a": [("send", "y", "c"), ("send", "x", "b")],
    "b": [("take", "x"), ("send", "z", "c")],
    "c": [("take", "z"), ("take", "y")],
}
# x lies, though what was sent behind it is taken
HELD = {"a": [("send", "x", "b"), ("send", "y", "c")], "b": [], "c": [("take", "y")]}
# of "outbox", not of "belt"
KNOT = {
    "a": [("take", "p"), ("send", "q", "b")],
    "b": [("send", "r", "c"), ("send", "p", "a"), ("take", "q"), ("take", "s")],
    "c": [("send", "s", "b"), ("take", "r")],
}
# of "causal", not of "box": both receivers take first what the other one's first sender sent last
CROSSING = {
    "c": [("take", "w"), ("take", "x")],
    "d": [("take", "y"), ("take", "z")],
    "p": [("send", "x", "c"), ("send", "y", "d")],
    "q": [("send", "z", "d"), ("send", "w", "c")],
}
# each sends ahead of its take
CROSSED = {"a": [("send", "x", "b"), ("take", "y")], "b": [("send", "y", "a"), ("take", "x")]}
# of no kind: the second one of a lane is taken first
SWAPPED = {"a": [("send", "x", "b"), ("send", "y", "b")], "b": [("take", "y"), ("take", "x")]}
# two lanes of two letters each, of which one has to hold both
TWO = {
    "p": [("send", "a", "q"), ("send", "b", "q"), ("take", "c"), ("take", "d")],
    "q": [("send", "c", "p"), ("send", "d", "p"), ("take", "a"), ("take", "b")],
}
# x lies, and what was sent behind it in its lane is taken
LOST = {"a": [("send", "x", "b"), ("send", "y", "b")], "b": [("take", "y")]}


def example():
    return Run(EXAMPLE)


def mixed():
    return Run(MIXED)


def chain(many):
    """A run of so many letters from a to b, each taken at once; called la, lb, .., then ma, mb, .."""
    names = [head + tail for head in "lm" for tail in "abcdefghijklmnopqrstuvwxyz"][:many]
    return Run({"a": [("send", name, "b") for name in names], "b": [("take", name) for name in names]})


def deep(wrap, times=40):
    """An object in which another one is wrapped so many times."""
    value = "x"
    for _ in range(times):
        value = wrap(value)
    return value


def odd_objects():
    """New objects of every kind that "any object" names."""
    return [
        None, True, False, 0, 1, 2, -1, 7, 10 ** 29, -10 ** 29,
        "", "x", "a", "q", "A", "xA", "x ", " x", "x\n", "\tx", "x1", "x-", "abcdefghi", "send", "take", "~",
        [], ["x"], ["y", "x"], ["x", "x"], [None], [True], [["x"]], [1, 0], ["x", 1],
        (), ("x",), ("x", "y"), ("x", "send"), ("x", "take"), ("send", "x", "b"), (1, 2), (True,), ([],),
        {}, {"x": "y"}, {"a": []}, {"a": ()}, {None: 1, True: [], (1, (2,)): ()}, {1: "x"}, {"x": {"x": {}}},
        ["x", "send"], [("x", "send")], [["x", "send"]], (("x", "send"),), [("x", "send", "b")], [("x ", "send")],
        {"a": [("send", "x", "b")], "b": (("take", "x"),)}, {("a",): []}, {"a": [["send", "x", "b"]], "b": []},
        deep(lambda inner: [inner]), deep(lambda inner: (inner,)), deep(lambda inner: {"x": inner}),
        deep(lambda inner: [(inner, {"a": inner})], 8), {deep(lambda inner: (inner,)): 1},
        Run({}), example(), [Run({})], (Run({}), "send"), {"a": Run({})}, [(Run({}), Run({}))],
        InvalidRows([]), PostError(), NothingToUndo(), [Refused("x")], {Refused("x"): "x"}, Post("box"), [Post("hand")],
        Plan({}, {}, [], []), [Plan({}, {}, [], [])], Desk(), (Desk(),),
    ]


def plain_events(rows):
    """The ascending list of the events."""
    return sorted((deed[1], deed[0]) for row in rows.values() for deed in row)


def stands_in_order(order, rows):
    """Whether each row and each letter goes forward in an order of the events."""
    place = {event: k for k, event in enumerate(order)}
    for row in rows.values():
        places = [place[(deed[1], deed[0])] for deed in row]
        if places != sorted(places):
            return False
    return all(place[(letter, "send")] < place[(letter, "take")] for letter, word in order if word == "take")


def plain_lines(rows):
    """The ascending list of all lines, by all orders of the events."""
    orders = itertools.permutations(plain_events(rows))
    return [list(order) for order in orders if stands_in_order(order, rows)]


def lines_by_steps(rows):
    """The ascending list of all lines of runs of more events, made by letting each party do its next deed."""
    many = sum(map(len, rows.values()))
    begun = [((), tuple(0 for _ in rows))]
    for _ in range(many):
        further = []
        for line, done in begun:
            for k, (row, at) in enumerate(zip(rows.values(), done)):
                if at < len(row):
                    word, letter = row[at][:2]
                    if word == "send" or (letter, "send") in line:
                        further.append((line + ((letter, word),), done[:k] + (at + 1,) + done[k + 1:]))
        begun = further
    return sorted(list(line) for line, _ in begun)


def plain_ahead(lines):
    """The tuples of two events of which the first one stands earlier in every line."""
    pairs = None
    for line in lines:
        found = set(itertools.combinations(line, 2))
        pairs = found if pairs is None else pairs & found
    return pairs


def plain_fronts(lines):
    """All beginnings of lines as ascending lists, shorter ones first, those of one length ascending."""
    begun = {tuple(sorted(line[:k])) for line in lines for k in range(len(line) + 1)}
    return [list(front) for front in sorted(begun, key=lambda front: (len(front), front))]


def chance_rows(chance, parties, letters):
    """Rows of so many parties and letters, as chance lets them send and take; some letters may lie."""
    names = "abcdefghij"[:parties]
    rows, lying, unsent = {name: [] for name in names}, [], list("zyxwvutsrq"[:letters])
    chance.shuffle(unsent)
    while unsent or (lying and chance.random() < 0.9):
        if unsent and (not lying or chance.random() < 0.5):
            sender, receiver = chance.sample(names, 2)
            lying.append((unsent.pop(), receiver))
            rows[sender].append(("send", *lying[-1]))
        else:
            letter, receiver = lying.pop(chance.randrange(len(lying)))
            rows[receiver].append(("take", letter))
    return rows


def chance_taken(chance, parties, letters):
    """Rows of so many parties and letters, in which nothing lies, as chance makes them."""
    while True:
        rows = chance_rows(chance, parties, letters)
        if sum(map(len, rows.values())) == 2 * letters:
            return rows


def small_rows():
    """Rows of runs with at most six events: chosen ones, then some made by chance that is always the same."""
    chosen = [
        {}, {"a": []}, {"a": [], "b": []}, EXAMPLE,
        {"a": [("send", "x", "b")], "b": []},
        {"a": [("send", "a", "b")], "b": [("take", "a")]},
        {"a": [("send", "b", "b"), ("take", "a")], "b": [("send", "a", "a"), ("take", "b")], "c": []},
        {"a": [("send", "x", "b"), ("send", "y", "c")], "b": [], "c": [("take", "y")]},
        {"a": [("send", "y", "c"), ("send", "x", "b")], "b": [("take", "x"), ("send", "z", "c")],
         "c": [("take", "z"), ("take", "y")]},
        {"a": [("send", "x", "b")], "b": [("take", "x")], "c": [("send", "y", "d")], "d": [("take", "y")]},
        {"a": [("send", "x", "b"), ("send", "y", "b"), ("send", "z", "b")], "b": []},
        {"a": [("send", "x", "d")], "b": [("send", "y", "d")], "c": [("send", "z", "d")], "d": []},
        CROSSED, SWAPPED, LOST,
    ]
    chance = random.Random(7)
    return chosen + [chance_rows(chance, 2 + k % 3, 1 + k % 3) for k in range(60)]


def all_rows_of_two():
    """All arrangements of the deeds of two letters among two or three parties, rows or not."""
    for names in ("ab", "abc"):
        for ends in itertools.product(itertools.permutations(names, 2), repeat=2):
            for taken in itertools.product((False, True), repeat=2):
                yield from arranged(names, ends, taken)


def arranged(names, ends, taken):
    """All ways in which each party may have set the deeds of letters x and y one behind the other."""
    deeds = {name: [] for name in names}
    for letter, (sender, receiver), goes in zip("xy", ends, taken):
        deeds[sender].append(("send", letter, receiver))
        if goes:
            deeds[receiver].append(("take", letter))
    for rows in itertools.product(*[itertools.permutations(deeds[name]) for name in names]):
        yield {name: list(row) for name, row in zip(names, rows)}


def all_runs_of_two():
    """All runs of two letters among two or three parties."""
    return [Run(rows) for rows in all_rows_of_two() if is_rows(rows)]


def all_parts(members):
    """All ascending lists of some members of an ascending list."""
    return [list(some) for many in range(len(members) + 1) for some in itertools.combinations(members, many)]


def not_runs():
    """New odd objects that are no runs."""
    return [value for value in odd_objects() if not isinstance(value, Run)]
