"""[75] to [80]: posts at work, which lines they pass, and of which kinds the runs of a list are."""

import itertools
import random
import unittest

from postways.errors import InvalidKind, InvalidLetter, InvalidLine, InvalidParty, InvalidRun, InvalidRuns, Refused
from postways.kinds import KINDS, is_of, kinds_of, serves
from postways.lines import first_line
from postways.posts import Post, barred_by, least_carrying, parted_by, passes, served_by, stops_at
from postways.runs import Run
from tests.calls import Call, CallCase, EachCall, call_of, odd_but, shown, told
from tests.counts import Counted
from tests.samples import (CROSSED, CROSSING, EXAMPLE, HELD, KNOT, LATE, LOST, MIXED, SWAPPED, chance_rows, deep,
                           example, small_rows)

FIRST = [("x", "send"), ("x", "take"), ("y", "send"), ("z", "send"), ("z", "take"), ("y", "take")]
RUN = ("run", example, InvalidRun)
KIND = ("kind", lambda: "box", InvalidKind)
LINE = ("line", lambda: list(FIRST), InvalidLine)
RUNS = ("runs", lambda: [Run(CROSSED), Run(EXAMPLE), Run(LATE)], InvalidRuns)
FUNCTIONS = [
    Call(passes, RUN, KIND, LINE),
    Call(stops_at, RUN, KIND, LINE),
    Call(served_by, RUN, LINE),
    Call(least_carrying, RUNS),
    Call(barred_by, RUNS, KIND),
    Call(parted_by, RUNS, KIND, ("other", lambda: "lanes", InvalidKind)),
]
GOOD = {InvalidKind: [], InvalidLine: [], InvalidRuns: [[], [Run({})]], InvalidLetter: [], InvalidParty: []}
NO_KINDS = ["Box", "box ", " box", "BOX", "lane", "", ("box",), ["box"], True, None, KINDS, list(KINDS), 0, Run({}),
            {"box": 1}, InvalidKind("box"), Post("box")]
NO_WORDS = ["", "X", "x ", " x", "x1", "abcdefghi", "x\n", "x-y", None, True, 1, ("x",), ["x"], {"x": 1}, Run({}),
            deep(lambda inner: [inner]), deep(lambda inner: (inner,)), Refused("x"), Post("box")]


def at_work(kind="causal"):
    """A post through which b was sent and taken, and then a was sent."""
    post = Post(kind)
    post.send("b", "p", "r")
    post.take("b")
    post.send("a", "p", "q")
    return post


def state(post):
    """A text of all that a post tells."""
    return shown([post.kind(), post.line(), post.lying(), post.free(), post.run()])


class Examples(unittest.TestCase):
    def test_the_block_of_the_document(self):
        post = Post("causal")
        self.assertEqual(
            [post.send("a", "p", "q"), post.send("b", "p", "r"), post.take("b"), post.send("c", "r", "q"), post.lying(),
             post.free()],
            [None, None, None, None, ['a', 'c'], ['a']])
        crossed = Run({"p": [("send", "a", "q"), ("take", "b")], "q": [("send", "b", "p"), ("take", "a")]})
        line = [("a", "send"), ("b", "send"), ("b", "take"), ("a", "take")]
        self.assertEqual(
            [passes(crossed, "box", line), passes(crossed, "belt", line), stops_at(crossed, "belt", line),
             stops_at(crossed, "hand", line), served_by(crossed, line)],
            [True, False, 2, 1, ['lanes', 'causal', 'box', 'outbox']])
        swapped = Run({"p": [("send", "x", "q"), ("send", "y", "q")], "q": [("take", "y"), ("take", "x")]})
        self.assertEqual(
            [least_carrying([crossed]), least_carrying([crossed, swapped]), barred_by([crossed, swapped], "lanes"),
             parted_by([swapped, crossed], "belt", "hand"), least_carrying([])],
            ['belt', None, 1, [1], 'hand'])


class Wrong(EachCall, CallCase):
    calls, good = FUNCTIONS, GOOD

    def test_texts_that_are_no_kinds(self):
        for call in FUNCTIONS:
            for position, error in enumerate(call.errors):
                if error is InvalidKind:
                    self.check_wrong(call, position, NO_KINDS)
        none = ("runs", list, InvalidRuns)
        self.check_wrong(Call(barred_by, none, KIND), 1, NO_KINDS)
        for position in (1, 2):
            self.check_wrong(Call(parted_by, none, KIND, ("other", lambda: "box", InvalidKind)), position, NO_KINDS)
        self.check_wrong(Call(Post, KIND), 0, NO_KINDS)
        self.check_odd_objects([Call(Post, KIND)], GOOD)

    def test_lists_that_are_no_lines(self):
        wrongs = [tuple(FIRST), FIRST[:-1], FIRST[::-1], [], [*FIRST, FIRST[0]], [FIRST], [*FIRST[:-1], None],
                  [[*event] for event in FIRST], [*FIRST[:-1], ("y", "lie")], {event: 1 for event in FIRST}]
        for function, position in ((passes, 2), (stops_at, 2), (served_by, 1)):
            self.check_wrong(call_of(FUNCTIONS, function), position, wrongs)

    def test_lists_of_other_things_than_runs(self):
        wrongs = [(), (Run({}),), [None], [Run({}), None], [Run({}), EXAMPLE], [[Run({})]], {"a": Run({})}, Run({}),
                  [Post("box")], ["runs"], "runs", [True], [Run({}), (Run({}),)], deep(lambda inner: [inner])]
        for function in (least_carrying, barred_by, parted_by):
            self.check_wrong(call_of(FUNCTIONS, function), 0, wrongs)

    def check_method(self, make, name, arguments, error, value):
        """A method of a post raises just this error, keeps the very value and changes nothing."""
        names = {"send": ["letter", "sender", "receiver"], "take": ["letter"]}[name]
        for passed in ((arguments, {}), ([], dict(zip(names, arguments)))):
            post = make()
            before = state(post)
            outcome = told(lambda: getattr(post, name)(*passed[0], **passed[1]))
            self.assertIs(type(outcome), error, (name, arguments))
            self.assertIs(outcome.value, value, (name, arguments))
            self.assertEqual(state(post), before)

    def test_sends_of_wrong_letters(self):
        # "x" and its like are words that odd objects name, too
        words = ["x", "q", "send", "take"]
        for kind in KINDS:
            for wrong in [*NO_WORDS, *odd_but(*words), "a" * 9]:
                if wrong != "a":
                    self.check_method(lambda: Post(kind), "send", [wrong, "p", "q"], InvalidLetter, wrong)
                    self.check_method(lambda: Post(kind), "send", [wrong, wrong, wrong], InvalidLetter, wrong)

    def test_letters_that_were_sent_already(self):
        for kind in KINDS[:-1]:
            for letter in ("a", "b"):
                self.check_method(lambda: at_work(kind), "send", [letter, "p", "q"], InvalidLetter, letter)
                self.check_method(lambda: at_work(kind), "send", [letter, None, None], InvalidLetter, letter)

    def test_sends_between_wrong_parties(self):
        for kind in KINDS:
            for wrong in NO_WORDS:
                self.check_method(lambda: Post(kind), "send", ["c", wrong, "q"], InvalidParty, wrong)
                self.check_method(lambda: Post(kind), "send", ["c", wrong, wrong], InvalidParty, wrong)
                self.check_method(lambda: Post(kind), "send", ["c", "p", wrong], InvalidParty, wrong)
            self.check_method(lambda: Post(kind), "send", ["c", "p", "p"], InvalidParty, "p")

    def test_takes_of_letters_that_do_not_lie(self):
        for kind in KINDS[:-1]:
            for wrong in [*NO_WORDS, "b", "c", "p", "aa", "A", "a ", ("a",), ["a"], *odd_but("a")]:
                self.check_method(lambda: at_work(kind), "take", [wrong], InvalidLetter, wrong)
        self.check_method(lambda: Post("hand"), "take", ["a"], InvalidLetter, "a")

    def test_takes_of_letters_that_are_held_up(self):
        for kind in KINDS[:-1]:
            post = Post(kind)
            post.send("a", "p", "q")
            post.send("b", "p", "q")
            before, text = state(post), "".join(["b"])
            outcome = told(lambda: post.take(text))
            self.assertEqual([type(outcome), state(post)], [Refused, before])
            self.assertIs(outcome.value, text)

    def test_sends_from_hand_to_hand_while_a_letter_lies(self):
        def lying():
            post = Post("hand")
            post.send("a", "p", "q")
            return post
        text = "".join(["le", "tter"])
        self.check_method(lying, "send", [text, "r", "s"], Refused, text)
        # behind all other errors
        self.check_method(lying, "send", ["a", "r", "s"], InvalidLetter, "a")
        self.check_method(lying, "send", ["b", "r", "r"], InvalidParty, "r")
        self.check_method(lying, "send", ["b", "r", None], InvalidParty, None)

    def test_nothing_is_shared(self):
        post = at_work()
        before = state(post)
        for name in ("free", "lying", "line"):
            getattr(post, name)().append("spoilt")
            self.assertIsNot(getattr(post, name)(), getattr(post, name)())
        post.run().rows()["p"].append("spoilt")
        self.assertEqual(state(post), before)
        self.assertEqual([post == post, post.run() == post.run()], [True, True])

    def test_copies_go_their_own_way(self):
        for kind in KINDS[:-1]:
            post = at_work(kind)
            other = post.copy()
            self.assertIsNot(other, post)
            self.assertIs(type(other), Post)
            self.assertEqual(state(other), state(post))
            before = state(post)
            other.take("a")
            other.send("c", "r", "s")
            self.assertEqual(state(post), before)
            after = state(other)
            post.take("a")
            post.send("d", "q", "p")
            self.assertEqual(state(other), after)
            self.assertNotEqual(state(post), after)


class PlainPost:
    """Which letters are free, by the words of the document, over a line of a run."""

    def __init__(self, counted):
        self.counted = counted

    def free(self, kind, come):
        """The ascending list of the free letters when these events have come."""
        sent = [letter for letter, word in come if word == "send"]
        lying = [letter for letter in sent if (letter, "take") not in come]
        if kind == "hand":
            return sorted(lying)
        return sorted(letter for k, letter in enumerate(lying)
                      if not any(self.counted.wants(kind, one, letter) for one in lying[:k]))

    def stops(self, kind, line):
        """The position of the first event that is refused, or None."""
        for k, (letter, word) in enumerate(line):
            come = line[:k]
            lying = [one for one, was in come if was == "send" and (one, "take") not in come]
            if word == "send" and kind == "hand" and lying:
                return k
            if word == "take" and letter not in self.free(kind, come):
                return k
        return None


class SmallRuns(unittest.TestCase):
    @classmethod
    def setUpClass(cls):
        chance = random.Random(75)
        rows = [*small_rows(), MIXED, KNOT, CROSSING, LATE, HELD]
        rows += [chance_rows(chance, 2 + k % 3, 4) for k in range(15)]
        cls.told = [Counted(some) for some in rows]

    def test_which_lines_pass(self):
        seen = set()
        for counted in self.told:
            for kind in KINDS:
                for line in counted.lines[:12] + counted.lines[-6:]:
                    place = PlainPost(counted).stops(kind, line)
                    self.assertEqual(stops_at(counted.run, kind, line), place)
                    lies = len(counted.taken) < len(counted.letters)
                    expected = place is None and not (kind == "hand" and lies)
                    self.assertIs(passes(counted.run, kind, line), expected)
                    # exactly if it serves the kind
                    self.assertIs(serves(counted.run, kind, line), expected)
                    seen.add(place)
        self.assertGreater(len(seen), 5)

    def test_what_posts_tell_along_lines(self):
        for counted in self.told[::3]:
            rows = counted.run.rows()
            for kind in KINDS:
                line = counted.lines[-1]
                post, stop = Post(kind), PlainPost(counted).stops(kind, line)
                for k, (letter, word) in enumerate(line[:stop]):
                    done = post.send(letter, *counted.ways[letter]) if word == "send" else post.take(letter)
                    come = line[:k + 1]
                    self.assertIsNone(done)
                    self.assertEqual([post.line(), post.kind()], [come, kind])
                    self.assertEqual(post.free(), PlainPost(counted).free(kind, come))
                    self.assertEqual(post.lying(), [one for one, was in come
                                                    if was == "send" and (one, "take") not in come])
                    self.assertEqual(post.run(), Run(self.rows_behind(rows, come, counted)))

    def rows_behind(self, rows, come, counted):
        """The rows of what has come, of the parties that were named by then."""
        named = {party for letter, word in come for party in counted.ways[letter]}
        return {party: [deed for deed in row if (deed[1], deed[0]) in come]
                for party, row in rows.items() if party in named}

    def test_which_kinds_are_served(self):
        for counted in self.told:
            for line in counted.lines[:4]:
                self.assertEqual(served_by(counted.run, line),
                                 [kind for kind in KINDS if not counted.out(kind, line)])


class ListsOfRuns(unittest.TestCase):
    def test_all_short_lists(self):
        runs = [Run(rows) for rows in (EXAMPLE, CROSSED, LATE, SWAPPED, HELD, CROSSING, KNOT)]
        for many in range(4):
            for some in map(list, itertools.product(runs, repeat=many)):
                shared = [kind for kind in KINDS if all(is_of(run, kind) for run in some)]
                self.assertEqual(least_carrying(some), shared[-1] if shared else None)
                if many < 3:
                    self.check_kinds(some)

    def check_kinds(self, runs):
        found = [kinds_of(run) for run in runs]
        for kind in KINDS:
            bad = [k for k, kinds in enumerate(found) if kind not in kinds]
            self.assertEqual(barred_by(runs, kind), bad[0] if bad else None)
            for other in KINDS:
                expected = [k for k, kinds in enumerate(found) if (kind in kinds) != (other in kinds)]
                self.assertEqual(parted_by(runs, kind, other), expected)

    def test_no_runs_and_one(self):
        self.assertEqual(least_carrying([]), "hand")
        for kind in KINDS:
            self.assertEqual([barred_by([], kind), parted_by([], kind, "hand")], [None, []])
        self.assertEqual([least_carrying([Run({})]), least_carrying([Run(SWAPPED)]), least_carrying([Run(LATE)])],
                         ["hand", None, "lanes"])
        self.assertEqual([barred_by([Run(LATE)], "causal"), parted_by([Run(LATE)], "causal", "lanes"),
                          parted_by([Run(LATE)], "causal", "causal")], [0, [0], []])


class Edges(unittest.TestCase):
    def test_runs_without_letters(self):
        for run in (Run({}), Run({"a": []})):
            self.assertEqual(served_by(run, []), list(KINDS))
            for kind in KINDS:
                self.assertEqual([passes(run, kind, []), stops_at(run, kind, [])], [True, None])

    def test_an_empty_post(self):
        for kind in KINDS:
            post = Post(kind)
            self.assertEqual([post.free(), post.lying(), post.line(), post.run(), post.kind()],
                             [[], [], [], Run({}), kind])
            self.assertEqual(state(post.copy()), state(post))
            self.assertEqual(state(Post(kind=kind)), state(post))

    def test_something_that_lies_at_the_end(self):
        run = Run({"a": [("send", "x", "b")], "b": []})
        line = [("x", "send")]
        self.assertEqual([stops_at(run, kind, line) for kind in KINDS], [None] * 6)
        self.assertEqual([passes(run, kind, line) for kind in KINDS], [True] * 5 + [False])
        self.assertEqual(served_by(run, line), list(KINDS)[:-1])

    def test_kinds_served_need_be_no_beginning(self):
        # x and y to one receiver, taken the other way about: that holds up in a box alone
        run = Run({"a": [("send", "x", "c")], "b": [("send", "y", "c")], "c": [("take", "y"), ("take", "x")]})
        line = [("x", "send"), ("y", "send"), ("y", "take"), ("x", "take")]
        self.assertEqual(served_by(run, line), ["lanes", "causal", "outbox"])

    def test_who_holds_up_whom(self):
        ways = {"a": ("p", "q"), "b": ("p", "r"), "c": ("s", "q"), "d": ("p", "q"), "e": ("r", "s")}
        expected = {"lanes": ["a", "b", "c", "e"], "causal": ["a", "b", "c", "e"], "box": ["a", "b", "e"],
                    "outbox": ["a", "c", "e"], "belt": ["a"]}
        for kind, free in expected.items():
            post = Post(kind)
            for letter, (sender, receiver) in ways.items():
                post.send(letter, sender, receiver)
            self.assertEqual([post.free(), post.lying()], [free, list("abcde")])

    def test_letters_that_are_taken_hold_up_nothing(self):
        for kind in KINDS[:-1]:
            post = Post(kind)
            for letter in "zyx":
                post.send(letter, "p", "q")
            self.assertEqual([post.lying(), post.free()], [["z", "y", "x"], ["z"]])
            post.take("z")
            self.assertEqual([post.lying(), post.free()], [["y", "x"], ["y"]])

    def test_from_hand_to_hand(self):
        post = Post("hand")
        for letter in "ab":
            post.send(letter, "p", "q")
            self.assertEqual([post.free(), post.lying()], [[letter], [letter]])
            post.take(letter)
        self.assertEqual([post.line(), post.free()], [[("a", "send"), ("a", "take"), ("b", "send"), ("b", "take")], []])
        self.assertEqual(post.run(), Run({"p": [("send", "a", "q"), ("send", "b", "q")],
                                          "q": [("take", "a"), ("take", "b")]}))

    def test_what_is_ahead_over_others(self):
        post = Post("causal")
        post.send("a", "p", "q")
        post.send("b", "p", "r")
        post.take("b")
        post.send("c", "r", "q")
        self.assertEqual([post.free(), [type(told(lambda: post.take("c"))), post.lying()]], [["a"], [Refused, ["a", "c"]]])
        post.take("a")
        self.assertEqual(post.free(), ["c"])
        # what was sent later, but not behind the other one, holds nothing up
        other = Post("causal")
        other.send("a", "p", "q")
        other.send("c", "r", "q")
        self.assertEqual(other.free(), ["a", "c"])

    def test_a_line_stops_a_post_for_good(self):
        run = Run(SWAPPED)
        self.assertEqual([stops_at(run, kind, first_line(run)) for kind in KINDS], [2, 2, 2, 2, 2, 1])
        self.assertEqual(served_by(run, first_line(run)), [])


if __name__ == "__main__":
    unittest.main()
