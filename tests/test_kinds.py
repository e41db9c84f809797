"""[27] to [33]: the kinds of posts, the lines that serve them, and the runs that are of them."""

import itertools
import random
import unittest

from postways import kinds
from postways.errors import InvalidEvent, InvalidKind, InvalidLetters, InvalidLine, InvalidRun, Refused
from postways.kinds import (KINDS, always_ahead, is_line_for, is_of, kinds_kept, kinds_of, least_kind, line_for,
                            many_lines_for, out_of_order, serves)
from postways.lines import first_line
from postways.runs import Run, kept, lying, turned_back
from tests.calls import Call, CallCase, EachCall, call_of, odd_but
from tests.counts import Counted
from tests.samples import (CROSSED, CROSSING, EXAMPLE, HELD, KNOT, LATE, LOST, MIXED, SWAPPED, all_parts,
                           all_runs_of_two, chance_rows, example, small_rows)

FIRST = [("x", "send"), ("x", "take"), ("y", "send"), ("z", "send"), ("z", "take"), ("y", "take")]
BOXED = [("x", "send"), ("x", "take"), ("z", "send"), ("y", "send"), ("z", "take"), ("y", "take")]
RUN = ("run", example, InvalidRun)
KIND = ("kind", lambda: "box", InvalidKind)
LINE = ("line", lambda: list(FIRST), InvalidLine)
CALLS = [
    Call(serves, RUN, KIND, LINE),
    Call(out_of_order, RUN, KIND, LINE),
    Call(is_of, RUN, KIND),
    Call(kinds_of, RUN),
    Call(least_kind, RUN),
    Call(line_for, RUN, KIND),
    Call(is_line_for, RUN, KIND, ("value", lambda: list(BOXED), None)),
    Call(many_lines_for, RUN, KIND),
    Call(always_ahead, RUN, KIND, ("one", lambda: ("z", "send"), InvalidEvent),
         ("other", lambda: ("y", "send"), InvalidEvent)),
    Call(kinds_kept, RUN, ("letters", lambda: ["x", "z"], InvalidLetters)),
]
GOOD = {
    InvalidKind: [],
    InvalidLine: [],
    InvalidEvent: [("x", "send"), ("x", "take")],
    InvalidLetters: [[], ["x"]],
}
ALL = list(KINDS)
NO_KINDS = ["Box", "BOX", "box ", " box", "boxes", "lane", "outBox", "box\n", "", ("box",), ["box"], {"box": "box"},
            "lie", 0, 2, True, None, KINDS, list(KINDS), InvalidKind("box"), Run({})]


class Examples(unittest.TestCase):
    def test_the_block_of_the_document(self):
        run = Run({"a": [("send", "x", "b"), ("send", "y", "c")], "b": [("take", "x"), ("send", "z", "c")],
                   "c": [("take", "z"), ("take", "y")]})
        late = Run({"a": [("send", "y", "c"), ("send", "x", "b")], "b": [("take", "x"), ("send", "z", "c")],
                    "c": [("take", "z"), ("take", "y")]})
        self.assertEqual(
            [kinds_of(run), kinds_of(late), least_kind(Run({})), serves(run, "box", first_line(run)),
             out_of_order(run, "box", first_line(run))],
            [['lanes', 'causal', 'box', 'outbox', 'belt', 'hand'], ['lanes'], 'hand', False, [('y', 'z')]])
        self.assertEqual(
            [many_lines_for(run, "box"), many_lines_for(run, "belt"), many_lines_for(run, "hand"),
             always_ahead(run, "box", ("z", "send"), ("y", "send")), kinds_kept(late, ["y", "z"])],
            [2, 2, 1, True, ['lanes', 'causal', 'box', 'outbox', 'belt', 'hand']])
        held = Run({"a": [("send", "x", "b"), ("send", "y", "c")], "b": [], "c": [("take", "y")]})
        self.assertEqual([kinds_of(held), line_for(held, "outbox"), is_of(held, "box")],
                         [['lanes', 'causal', 'box'], None, True])

    def test_the_tuple_of_kinds(self):
        self.assertEqual(kinds.KINDS, ("lanes", "causal", "box", "outbox", "belt", "hand"))
        self.assertIs(type(kinds.KINDS), tuple)


class Wrong(EachCall, CallCase):
    calls, good = CALLS, GOOD

    def test_nothing_is_shared_for_any_kind(self):
        for kind in KINDS:
            for function in (line_for, many_lines_for):
                self.check_shares_nothing(Call(function, RUN, ("kind", lambda: kind, InvalidKind)))
            self.check_shares_nothing(Call(out_of_order, RUN, ("kind", lambda: kind, InvalidKind), LINE))

    def test_texts_that_are_no_kinds(self):
        for call in CALLS:
            if InvalidKind in call.errors:
                self.check_wrong(call, call.errors.index(InvalidKind), NO_KINDS)

    def test_lists_that_are_no_lines(self):
        wrongs = [tuple(FIRST), FIRST[:-1], FIRST[::-1], [], [*FIRST, FIRST[0]], [*FIRST[:-1], ("y", "lie")],
                  [*FIRST[:-1], ("y", "take ")], [[*event] for event in FIRST], [*FIRST[:-1], None], [FIRST],
                  [FIRST[1], FIRST[0], *FIRST[2:]], [*FIRST[:-1], True], {event: True for event in FIRST}]
        for function in (serves, out_of_order):
            self.check_wrong(call_of(CALLS, function), 2, wrongs)
        self.check_judge(call_of(CALLS, is_line_for), [*wrongs, tuple(BOXED), BOXED[:-1], [BOXED], list(FIRST)])

    def test_the_judge_of_lines_returns_false_for_odd_objects(self):
        self.check_judge(call_of(CALLS, is_line_for), odd_but())
        no_line = Call(is_line_for, ("run", lambda: Run(SWAPPED), InvalidRun), ("kind", lambda: "lanes", InvalidKind),
                       ("value", lambda: None, None))
        for value in [*odd_but(), first_line(Run(SWAPPED))]:
            self.assertIs(no_line.function(Run(SWAPPED), "lanes", value), False)

    def test_events_and_moments_that_are_none(self):
        wrongs = [("x", "lie"), ("x", "sent"), ("x", "send "), ("q", "send"), ["x", "send"], ("x",), "x",
                  ("x", "send", "b"), (("x", "send"),), ("x", True), {"x": "send"}, ("x", Run({}))]
        for position in (2, 3):
            self.check_wrong(call_of(CALLS, always_ahead), position, wrongs)
        lost = ("run", lambda: Run(LOST), InvalidRun)
        call = Call(always_ahead, lost, ("kind", lambda: "lanes", InvalidKind),
                    ("one", lambda: ("x", "send"), InvalidEvent), ("other", lambda: ("x", "send"), InvalidEvent))
        for position in (2, 3):
            self.check_wrong(call, position, [("x", "lie"), ("x", "take"), ("y", "lie")])

    def test_lists_of_letters_that_are_none(self):
        wrongs = [["z", "x"], ["x", "x"], ("x", "y"), ["x", "w"], ["x", 1], [True], ["x "], "xyz", {"x": "x"}, [[]]]
        self.check_wrong(call_of(CALLS, kinds_kept), 1, wrongs)

    def test_what_is_always_ahead_is_refused_behind_all_else(self):
        call = call_of(CALLS, always_ahead)
        send, take = ("x", "send"), ("x", "take")
        for rows, refused in ((LATE, ALL[1:]), (CROSSED, ["hand"]), (SWAPPED, ALL), (LOST, ALL)):
            for kind in refused:
                for other in (send, ("y", "send")):
                    self.check_error(call, [Run(rows), kind, send, other], Refused, kind)
                self.check_error(call, [Run(rows), kind, None, take], InvalidEvent, None)
                self.check_error(call, [Run(rows), kind, send, ("x", "tak")], InvalidEvent, ("x", "tak"))
        # the very text that was passed
        text = "".join(["ha", "nd"])
        self.check_error(call, [Run(CROSSED), text, send, take], Refused, text)


class SmallRuns(unittest.TestCase):
    """What is returned, held against a plain count by all lines."""

    @classmethod
    def setUpClass(cls):
        chance = random.Random(21)
        more = [KNOT, CROSSING, *[chance_rows(chance, 2 + k % 4, 4) for k in range(30)]]
        cls.told = [Counted(rows) for rows in small_rows() + [MIXED] + more]
        cls.told.extend(Counted(run.rows()) for run in all_runs_of_two())

    def test_which_lines_serve(self):
        for counted in self.told:
            for kind in KINDS:
                for line in counted.lines[:30] + counted.lines[-10:]:
                    out = counted.out(kind, line)
                    self.assertEqual(out_of_order(counted.run, kind, line), out)
                    self.assertIs(serves(counted.run, kind, line), out == [])
                    self.assertIs(is_line_for(counted.run, kind, line), out == [])

    def test_of_which_kinds_runs_are(self):
        seen = set()
        for counted in self.told:
            found = [kind for kind in KINDS if counted.serving[kind]]
            seen.add(len(found))
            self.assertEqual(kinds_of(counted.run), found)
            self.assertEqual(least_kind(counted.run), found[-1] if found else None)
            for kind in KINDS:
                self.assertIs(is_of(counted.run, kind), kind in found)
        self.assertEqual(seen, set(range(7)))

    def test_how_many_lines_serve_and_one_of_them(self):
        for counted in self.told:
            for kind, serving in counted.serving.items():
                self.assertEqual(many_lines_for(counted.run, kind), len(serving))
                line = line_for(counted.run, kind)
                self.assertTrue(line in serving if serving else line is None)

    def test_what_is_always_ahead(self):
        for counted in self.told:
            for kind, serving in counted.serving.items():
                places = [{event: k for k, event in enumerate(line)} for line in serving[:400]]
                for one, other in itertools.product(counted.events, repeat=2):
                    if len(serving) > 400:
                        break
                    if serving:
                        always = one != other and all(place[one] < place[other] for place in places)
                        self.assertIs(always_ahead(counted.run, kind, one, other), always)
                    else:
                        with self.assertRaises(Refused) as caught:
                            always_ahead(counted.run, kind, one, other)
                        self.assertIs(caught.exception.value, kind)

    def test_kinds_of_what_is_kept(self):
        for counted in self.told:
            for letters in all_parts(counted.letters):
                some = kinds_kept(counted.run, letters)
                self.assertEqual(some, kinds_of(kept(counted.run, letters)))
                # it has all kinds of the run, whatever letters lie
                self.assertEqual([kind for kind in kinds_of(counted.run) if kind not in some], [])

    def test_for_lanes_and_causal_all_lines_serve_or_none(self):
        for counted in self.told:
            for kind in ("lanes", "causal"):
                self.assertIn(counted.serving[kind], ([], counted.lines))

    def test_kinds_are_a_beginning_of_all(self):
        for counted in self.told:
            found = kinds_of(counted.run)
            self.assertEqual(found, ALL[:len(found)])

    def test_kinds_where_nothing_lies(self):
        told = 0
        for counted in self.told:
            run = counted.run
            if not lying(run):
                told += 1
                self.assertIs(is_of(run, "box"), is_of(run, "outbox"))
                self.assertEqual(kinds_of(turned_back(run)), kinds_of(run))
                if len(run.parties()) == 2:
                    self.assertIs(is_of(run, "belt"), is_of(run, "lanes"))
        self.assertGreater(told, 50)


class FiveLetters(unittest.TestCase):
    """Runs of as many letters as lines are counted for, by all their lines."""

    def test_counts(self):
        chance = random.Random(4)
        told = 0
        while told < 12:
            counted = Counted(chance_rows(chance, 2 + told % 3, 5))
            if len(counted.lines) > 3000:
                continue
            told += 1
            self.assertEqual(kinds_of(counted.run), [kind for kind in KINDS if counted.serving[kind]])
            for kind, serving in counted.serving.items():
                self.assertEqual(many_lines_for(counted.run, kind), len(serving))
                line = line_for(counted.run, kind)
                self.assertTrue(line in serving if serving else line is None)
                if serving:
                    for one, other in itertools.product(counted.events, repeat=2):
                        always = one != other and all(line.index(one) < line.index(other) for line in serving)
                        self.assertIs(always_ahead(counted.run, kind, one, other), always)


class Edges(unittest.TestCase):
    def test_runs_without_letters(self):
        for run in (Run({}), Run({"a": [], "b": []})):
            self.assertEqual([kinds_of(run), least_kind(run), kinds_kept(run, [])], [ALL, "hand", ALL])
            for kind in KINDS:
                self.assertEqual([is_of(run, kind), line_for(run, kind), many_lines_for(run, kind)], [True, [], 1])
                self.assertEqual([serves(run, kind, []), out_of_order(run, kind, []), is_line_for(run, kind, [])],
                                 [True, [], True])
                self.assertIs(is_line_for(run, kind, ()), False)

    def test_idle_parties_mean_nothing(self):
        for rows in (EXAMPLE, LATE, HELD, CROSSED, SWAPPED):
            more = Run({**rows, "idle": []})
            self.assertEqual(kinds_of(more), kinds_of(Run(rows)))
            self.assertEqual([many_lines_for(more, kind) for kind in KINDS],
                             [many_lines_for(Run(rows), kind) for kind in KINDS])

    def test_runs_of_no_kind(self):
        for rows in (SWAPPED, LOST):
            run = Run(rows)
            self.assertEqual([kinds_of(run), least_kind(run)], [[], None])
            for kind in KINDS:
                self.assertEqual([is_of(run, kind), line_for(run, kind), many_lines_for(run, kind)], [False, None, 0])

    def test_a_letter_that_lies(self):
        run = Run({"a": [("send", "x", "b")], "b": []})
        line = [("x", "send")]
        self.assertEqual(kinds_of(run), ALL[:-1])
        self.assertEqual([out_of_order(run, kind, line) for kind in KINDS], [[], [], [], [], [], [("x",)]])
        self.assertEqual([line_for(run, "belt"), line_for(run, "hand")], [line, None])

    def test_letters_that_lie_are_in_no_order(self):
        run = Run({"a": [("send", "x", "c"), ("send", "y", "c")], "b": [("send", "z", "c")], "c": []})
        self.assertEqual(kinds_of(run), ALL[:-1])
        self.assertEqual([many_lines_for(run, kind) for kind in KINDS], [3, 3, 3, 3, 3, 0])

    def test_a_letter_that_lies_and_one_sent_behind_it(self):
        run, line = Run(LOST), [("x", "send"), ("y", "send"), ("y", "take")]
        for kind in ALL[:-1]:
            self.assertEqual(out_of_order(run, kind, line), [("x", "y")])
        self.assertEqual(out_of_order(run, "hand", line), [("x",)])
        # the other way about all is in order
        run = Run({"a": [("send", "x", "b"), ("send", "y", "b")], "b": [("take", "x")]})
        for line in ([("x", "send"), ("y", "send"), ("x", "take")], [("x", "send"), ("x", "take"), ("y", "send")]):
            for kind in ALL[:-1]:
                self.assertEqual(out_of_order(run, kind, line), [])

    def test_causal_looks_at_what_is_ahead_and_not_at_the_line(self):
        # y is sent behind x in the line alone
        run = Run({"a": [("send", "x", "c")], "b": [("send", "y", "c")], "c": [("take", "y"), ("take", "x")]})
        line = [("x", "send"), ("y", "send"), ("y", "take"), ("x", "take")]
        self.assertEqual([out_of_order(run, kind, line) for kind in KINDS],
                         [[], [], [("x", "y")], [], [("x", "y")], [("x",)]])
        # x goes to c, then over b comes a letter that knows of it
        self.assertEqual(out_of_order(Run(LATE), "causal", first_line(Run(LATE))), [("y", "z")])

    def test_from_hand_to_hand(self):
        run = Run(EXAMPLE)
        line = [("x", "send"), ("x", "take"), ("z", "send"), ("z", "take"), ("y", "send"), ("y", "take")]
        self.assertEqual([line_for(run, "hand"), out_of_order(run, "hand", line)], [line, []])
        self.assertEqual(out_of_order(run, "hand", FIRST), [("y",)])
        self.assertEqual(out_of_order(run, "hand", BOXED), [("y",), ("z",)])
        self.assertIs(always_ahead(run, "hand", ("x", "send"), ("x", "take")), True)
        self.assertIs(always_ahead(run, "hand", ("x", "take"), ("x", "send")), False)
        self.assertIs(always_ahead(run, "hand", ("z", "take"), ("y", "send")), True)

    def test_the_send_that_stands_last(self):
        run = Run({"a": [("send", "x", "b"), ("send", "y", "b")], "b": [("take", "x")]})
        line = [("x", "send"), ("x", "take"), ("y", "send")]
        self.assertEqual(out_of_order(run, "hand", line), [("y",)])

    def test_no_event_is_always_ahead_of_itself(self):
        for kind in KINDS:
            for event in FIRST:
                self.assertIs(always_ahead(example(), kind, event, event), False)

    def test_two_from_one_sender_to_two_receivers(self):
        run = Run({"a": [("send", "x", "b"), ("send", "y", "c")], "b": [("take", "x")], "c": [("take", "y")]})
        line = [("x", "send"), ("y", "send"), ("y", "take"), ("x", "take")]
        self.assertEqual([serves(run, kind, line) for kind in KINDS], [True, True, True, False, False, False])
        self.assertEqual([many_lines_for(run, kind) for kind in KINDS], [3, 3, 3, 2, 2, 1])


if __name__ == "__main__":
    unittest.main()
