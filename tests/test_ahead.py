"""[17] to [21]: what is ahead and beside, fronts, and of what a party can know."""

import itertools
import unittest

from postways.ahead import (all_ahead, all_beside, are_beside, events, fronts, heard_of, is_ahead, is_front,
                            least_front, many_fronts, may_come)
from postways.errors import InvalidEvent, InvalidEvents, InvalidFront, InvalidParty, InvalidRun
from postways.runs import Run
from tests.calls import Call, CallCase, EachCall, call_of, odd_but
from tests.samples import (EXAMPLE, MIXED, all_parts, example, mixed, plain_ahead, plain_events, plain_fronts,
                           plain_lines, small_rows)

SENT, TAKEN = ("x", "send"), ("x", "take")
RUN = ("run", example, InvalidRun)
CALLS = [
    Call(events, RUN),
    Call(is_ahead, RUN, ("one", lambda: SENT, InvalidEvent), ("other", lambda: ("z", "take"), InvalidEvent)),
    Call(all_ahead, RUN, ("event", lambda: ("z", "send"), InvalidEvent)),
    Call(are_beside, RUN, ("one", lambda: ("y", "send"), InvalidEvent), ("other", lambda: TAKEN, InvalidEvent)),
    Call(all_beside, RUN, ("event", lambda: ("y", "send"), InvalidEvent)),
    Call(is_front, RUN, ("value", lambda: [SENT, TAKEN], None)),
    Call(fronts, RUN),
    Call(many_fronts, RUN),
    Call(least_front, RUN, ("events", lambda: [("z", "send")], InvalidEvents)),
    Call(may_come, RUN, ("front", lambda: [SENT], InvalidFront)),
    Call(heard_of, RUN, ("party", lambda: "b", InvalidParty)),
]
GOOD = {
    InvalidEvent: [SENT, TAKEN],
    InvalidEvents: [[], [SENT]],
    InvalidFront: [[], [SENT]],
    InvalidParty: ["a"],
}
NO_EVENTS = [("x", "sent"), ("x", "lie"), ("x", "send "), ("x ", "send"), ("x",), ("x", "send", "b"), ("send", "x"),
             ["x", "send"], ("q", "send"), ("a", "send"), (("x", "send"),), ("x", ["send"]), (["x"], "send"),
             ("x", True), {"x": "send"}, "x", "xs", ("x", Run({})), (Run({}), "send"), ()]


class Examples(unittest.TestCase):
    def test_the_block_of_the_document(self):
        run = Run({"a": [("send", "x", "b"), ("send", "y", "c")], "b": [("take", "x"), ("send", "z", "c")],
                   "c": [("take", "z"), ("take", "y")]})
        self.assertEqual(
            [is_ahead(run, ("x", "send"), ("z", "take")), are_beside(run, ("y", "send"), ("z", "take")),
             all_ahead(run, ("z", "send")), all_beside(run, ("z", "send"))],
            [True, True, [('x', 'send'), ('x', 'take')], [('y', 'send')]])
        self.assertEqual(
            [many_fronts(run), least_front(run, [("z", "send")]), may_come(run, [("x", "send")]),
             is_front(run, [("x", "take")]), heard_of(run, "b")],
            [10, [('x', 'send'), ('x', 'take'), ('z', 'send')], [('x', 'take'), ('y', 'send')], False, ['x', 'z']])


class Wrong(EachCall, CallCase):
    calls, good = CALLS, GOOD

    def test_events_that_are_none(self):
        for call in CALLS:
            for position, error in enumerate(call.errors):
                if error is InvalidEvent:
                    self.check_wrong(call, position, NO_EVENTS)

    def test_takes_of_letters_that_lie_are_no_events(self):
        for function in (all_ahead, all_beside):
            call = Call(function, ("run", mixed, InvalidRun), ("event", lambda: ("x", "send"), InvalidEvent))
            self.check_wrong(call, 1, [("x", "take"), ("c", "take"), ("x", "lie")])
        for function in (is_ahead, are_beside):
            call = Call(function, ("run", mixed, InvalidRun), ("one", lambda: ("x", "send"), InvalidEvent),
                        ("other", lambda: ("a", "take"), InvalidEvent))
            self.check_wrong(call, 1, [("x", "take"), ("e", "take")])
            self.check_wrong(call, 2, [("x", "take"), ("e", "take")])

    def test_lists_of_events_that_are_none(self):
        wrongs = [[TAKEN, SENT], [SENT, SENT], (SENT,), (SENT, TAKEN), SENT, {SENT: TAKEN}, [SENT, None], [SENT, 1],
                  [None, SENT], [[SENT]], [SENT, [TAKEN]], *[[event] for event in NO_EVENTS],
                  *[[SENT, event] for event in NO_EVENTS]]
        self.check_wrong(call_of(CALLS, least_front), 1, wrongs)
        wrongs.extend([[TAKEN], [SENT, ("z", "send")], [("y", "send")]])
        self.check_wrong(call_of(CALLS, may_come), 1, wrongs)
        self.check_judge(call_of(CALLS, is_front), wrongs)

    def test_the_judge_of_fronts_returns_false_for_odd_objects(self):
        self.check_judge(call_of(CALLS, is_front), odd_but([], [SENT]))

    def test_parties_of_other_runs(self):
        self.check_wrong(call_of(CALLS, heard_of), 1, ["d", "x", "a ", "", ("a",), ["a"], {"a": []}, True, 0])


class SmallRuns(unittest.TestCase):
    """What is returned, held against a plain count by all orders of the events."""

    @classmethod
    def setUpClass(cls):
        cls.told = [(Run(rows), rows, plain_lines(rows)) for rows in small_rows() + [MIXED]]

    def test_events(self):
        for run, rows, _ in self.told:
            self.assertEqual(events(run), plain_events(rows))

    def test_what_is_ahead_stands_earlier_in_every_line(self):
        for run, _, lines in self.told:
            pairs = plain_ahead(lines)
            for one, other in itertools.product(events(run), repeat=2):
                self.assertIs(is_ahead(run, one, other), (one, other) in pairs)
            for event in events(run):
                self.assertEqual(all_ahead(run, event), sorted(one for one, other in pairs if other == event))

    def test_what_is_beside_stands_earlier_in_some_lines_only(self):
        for run, _, lines in self.told:
            pairs = plain_ahead(lines)
            for one in events(run):
                beside = [other for other in events(run)
                          if other != one and (one, other) not in pairs and (other, one) not in pairs]
                self.assertEqual(all_beside(run, one), beside)
                for other in events(run):
                    self.assertIs(are_beside(run, one, other), other in beside)

    def test_fronts_are_the_beginnings_of_lines(self):
        for run, _, lines in self.told:
            found = plain_fronts(lines)
            self.assertEqual(fronts(run), found)
            self.assertEqual(many_fronts(run), len(found))
            for some in all_parts(events(run)):
                self.assertIs(is_front(run, some), some in found)

    def test_least_fronts(self):
        for run, _, lines in self.told:
            found = plain_fronts(lines)
            for some in all_parts(events(run)):
                least = next(front for front in found if set(some) <= set(front))
                self.assertEqual(least_front(run, some), least)
                self.assertTrue(all(set(least) <= set(front) for front in found if set(some) <= set(front)))

    def test_what_may_come(self):
        for run, _, lines in self.told:
            found = plain_fronts(lines)
            for front in found:
                nexts = [event for event in events(run) if event not in front and sorted([*front, event]) in found]
                self.assertEqual(may_come(run, front), nexts)

    def test_heard_of(self):
        for run, rows, lines in self.told:
            pairs = plain_ahead(lines)
            for party, row in rows.items():
                own = [(deed[1], deed[0]) for deed in row]
                heard = [letter for letter, word in events(run) if word == "send" and
                         ((letter, word) in own or any(((letter, word), event) in pairs for event in own))]
                self.assertEqual(heard_of(run, party), heard)


class Edges(unittest.TestCase):
    def test_runs_without_letters(self):
        for run in (Run({}), Run({"a": [], "b": []})):
            self.assertEqual([events(run), fronts(run), many_fronts(run)], [[], [[]], 1])
            self.assertEqual([least_front(run, []), may_come(run, []), is_front(run, [])], [[], [], True])
        self.assertEqual(heard_of(Run({"a": [], "b": []}), "b"), [])

    def test_the_empty_front_and_the_one_of_all_events(self):
        run = example()
        self.assertEqual([may_come(run, []), may_come(run, events(run))], [[SENT], []])
        self.assertEqual([fronts(run)[0], fronts(run)[-1]], [[], events(run)])
        self.assertEqual([is_front(run, []), is_front(run, events(run))], [True, True])
        self.assertEqual([least_front(run, []), least_front(run, events(run))], [[], events(run)])

    def test_letters_that_lie(self):
        run = mixed()
        self.assertEqual(events(run), [("a", "send"), ("a", "take"), ("c", "send"), ("e", "send"), ("x", "send")])
        self.assertEqual(all_ahead(run, ("e", "send")), [("a", "send"), ("a", "take"), ("x", "send")])
        self.assertEqual(all_beside(run, ("c", "send")), [("a", "send"), ("a", "take"), ("e", "send"), ("x", "send")])
        self.assertEqual([heard_of(run, party) for party in "abcde"], [["a", "x"], ["c"], ["a", "e", "x"], [], []])

    def test_an_event_is_neither_ahead_of_itself_nor_beside_itself(self):
        run = example()
        for event in events(run):
            self.assertIs(is_ahead(run, event, event), False)
            self.assertIs(are_beside(run, event, event), False)
            self.assertNotIn(event, all_ahead(run, event) + all_beside(run, event))

    def test_what_is_ahead_in_a_row_and_through_letters(self):
        run = Run(EXAMPLE)
        self.assertIs(is_ahead(run, SENT, TAKEN), True)
        self.assertIs(is_ahead(run, SENT, ("y", "send")), True)
        self.assertIs(is_ahead(run, ("y", "send"), SENT), False)
        self.assertIs(is_ahead(run, SENT, ("y", "take")), True)
        self.assertEqual(heard_of(run, "c"), ["x", "y", "z"])


if __name__ == "__main__":
    unittest.main()
