"""[10] to [16]: runs, their letters and parties, and the runs that are made of them."""

import itertools
import random
import unittest

from postways.errors import (InvalidLetter, InvalidLetters, InvalidNames, InvalidParty, InvalidRows, InvalidRun, Lies,
                             Refused)
from postways.runs import (Run, are_alike, busy, called, is_kept_of, is_rows, kept, lane, lies, lying, moved, named,
                           receiver_of, sender_of, turned_back)
from tests.calls import Call, CallCase, EachCall, call_of, odd_but
from tests.samples import (EXAMPLE, MIXED, all_rows_of_two, chain, chance_rows, example, mixed, not_runs, small_rows,
                           stands_in_order)

RUN = ("run", example, InvalidRun)
CALLS = [
    Call(Run, ("rows", lambda: {name: list(row) for name, row in MIXED.items()}, InvalidRows)),
    Call(sender_of, RUN, ("letter", lambda: "x", InvalidLetter)),
    Call(receiver_of, RUN, ("letter", lambda: "z", InvalidLetter)),
    Call(lies, RUN, ("letter", lambda: "y", InvalidLetter)),
    Call(lying, ("run", mixed, InvalidRun)),
    Call(lane, RUN, ("party", lambda: "a", InvalidParty), ("other", lambda: "c", InvalidParty)),
    Call(kept, RUN, ("letters", lambda: ["x", "z"], InvalidLetters)),
    Call(is_kept_of, ("one", lambda: kept(example(), ["y"]), InvalidRun), ("other", example, InvalidRun)),
    Call(called, RUN, ("names", lambda: {"y": "x", "x": "q", "z": "a"}, InvalidNames)),
    Call(moved, RUN, ("names", lambda: {"a": "c", "c": "x", "b": "a"}, InvalidNames)),
    Call(named, RUN),
    Call(busy, ("run", mixed, InvalidRun)),
    Call(are_alike, ("one", example, InvalidRun), ("other", lambda: named(example()), InvalidRun)),
    Call(turned_back, RUN),
]
GOOD = {
    InvalidRows: [{}, {"a": []}],
    InvalidLetter: ["x"],
    InvalidParty: ["a"],
    InvalidLetters: [[], ["x"]],
    InvalidNames: [],
}


class Examples(unittest.TestCase):
    def test_the_block_of_the_document(self):
        run = Run({"a": [("send", "x", "b"), ("send", "y", "c")], "b": [("take", "x"), ("send", "z", "c")],
                   "c": [("take", "z"), ("take", "y")]})
        self.assertEqual(
            [run.parties(), run.letters(), receiver_of(run, "z"), lying(run), lane(run, "a", "c"), lane(run, "c", "a")],
            [['a', 'b', 'c'], ['x', 'y', 'z'], 'c', [], ['y'], []])
        self.assertEqual(
            [kept(run, ["y"]).rows(), busy(kept(run, ["y"])).parties(), is_kept_of(kept(run, ["y"]), run),
             named(run).rows()["c"]],
            [{'a': [('send', 'y', 'c')], 'b': [], 'c': [('take', 'y')]}, ['a', 'c'], True,
             [('take', 'c'), ('take', 'b')]])
        self.assertEqual(
            [turned_back(run).rows()["c"], turned_back(turned_back(run)) == run, are_alike(run, named(run))],
            [[('send', 'y', 'a'), ('send', 'z', 'b')], True, True])


class Wrong(EachCall, CallCase):
    calls, good = CALLS, GOOD

    def test_nothing_is_shared_by_rows_and_methods(self):
        self.check_shares_nothing(Call(is_rows, ("value", lambda: {"a": []}, None)))
        for method in (Run.rows, Run.parties, Run.letters):
            self.check_shares_nothing(Call(method, ("self", mixed, None)))

    def test_letters_of_other_runs_and_words_with_a_sign_more(self):
        for function in (sender_of, receiver_of, lies):
            call = Call(function, RUN, ("letter", str, InvalidLetter))
            self.check_wrong(call, 1, ["a", "w", "xx", "x ", " x", "x\n", "X", "", ("x",), ["x"], {"x": "x"}, 0])

    def test_parties_of_other_runs_and_one_party_twice(self):
        call = call_of(CALLS, lane)
        for position in (1, 2):
            self.check_wrong(call, position, ["d", "aa", "a ", "x", "", ("a",), ["a"], {"a": []}, True])
        for party in "abc":
            self.check_error(call, [example(), party, party], InvalidParty, party)
        self.check_error(call, [example(), "q", "q"], InvalidParty, "q")

    def test_lists_of_letters_that_are_none(self):
        wrongs = [["z", "x"], ["x", "x"], ["x", "y", "y"], ("x", "y"), ["x", "w"], ["w"], ["x", 1], [True], ["x "],
                  ["x", ["y"]], ["x", None], "xyz", {"x": "x"}, [[]], [{}], ["x", Run({})], ["a"]]
        self.check_wrong(call_of(CALLS, kept), 1, wrongs)

    def test_names_that_are_none(self):
        good = {"x": "p", "y": "q", "z": "r"}
        wrongs = [{"x": "p", "y": "q"}, {**good, "w": "s"}, {**good, True: "s"}, {**good, "z": "p"}, {**good, "z": "R"},
                  {**good, "z": ""}, {**good, "z": "abcdefghi"}, {**good, "z": "r\n"}, {**good, "z": 1},
                  {**good, "z": ["r"]}, {**good, "z": {}}, {**good, "z": None}, {"x": "p", "y": "q", "w": "r"},
                  {"x": "p", "y": "q", "z ": "r"}, {"x": "p", "y": "q", ("z",): "r"}, {"x": "p", "y": "q", None: "r"},
                  list(good.items()), ["p", "q", "r"], {"a": "p", "b": "q", "c": "r"}, {**good, "z": Run({})}]
        self.check_wrong(call_of(CALLS, called), 1, wrongs)
        wrongs = [{dict(x="a", y="b", z="c").get(key, key): name for key, name in wrong.items()}
                  for wrong in wrongs if isinstance(wrong, dict) and "a" not in wrong]
        wrongs.extend([good, ["p", "q", "r"], [("a", "p"), ("b", "q"), ("c", "r")]])
        self.check_wrong(call_of(CALLS, moved), 1, wrongs)
        for function in (called, moved):
            self.check_wrong(Call(function, ("run", lambda: Run({}), InvalidRun), ("names", dict, InvalidNames)), 1,
                             [[], (), None, "", 0, False, {"x": "y"}, {None: "x"}])


class Rows(unittest.TestCase):
    def plainly_rows(self, rows):
        """Whether the deeds of these rows, right but for their order, can come in some order at all."""
        events = [(deed[1], deed[0]) for row in rows.values() for deed in row]
        return any(stands_in_order(order, rows) for order in itertools.permutations(events))

    def test_all_arrangements_of_two_letters(self):
        told = {True: 0, False: 0}
        for rows in all_rows_of_two():
            outcome = is_rows(rows)
            told[outcome] += 1
            self.assertIs(outcome, self.plainly_rows(rows), rows)
            if outcome:
                self.assertEqual(Run(rows).rows(), rows)
            else:
                with self.assertRaises(InvalidRows) as caught:
                    Run(rows)
                self.assertIs(caught.exception.value, rows)
        self.assertGreater(told[True], 200)
        # two parties, each of which first takes what the other one sends after its own take
        self.assertEqual(told[False], 8)

    def test_shuffled_rows_of_three_letters(self):
        chance = random.Random(5)
        told = {True: 0, False: 0}
        for k in range(200):
            rows = chance_rows(chance, 2 + k % 3, 3)
            for row in rows.values():
                chance.shuffle(row)
            told[is_rows(rows)] += 1
            self.assertIs(is_rows(rows), self.plainly_rows(rows), rows)
        self.assertGreater(min(told.values()), 20)

    def test_rings_of_deeds(self):
        both = {"a": [("take", "y"), ("send", "x", "b")], "b": [("take", "x"), ("send", "y", "a")]}
        self.assertIs(is_rows(both), False)
        ring = {"a": [("take", "z"), ("send", "x", "b")], "b": [("take", "x"), ("send", "y", "c")],
                "c": [("take", "y"), ("send", "z", "a")]}
        self.assertIs(is_rows(ring), False)
        self.assertIs(is_rows({**ring, "c": [("send", "z", "a"), ("take", "y")]}), True)
        self.assertIs(is_rows({**ring, "d": [("send", "w", "e")], "e": [("take", "w")]}), False)

    def check_no_rows(self, values):
        for value in values:
            before = repr(value)
            self.assertIs(is_rows(value), False, value)
            with self.assertRaises(InvalidRows) as caught:
                Run(value)
            self.assertIs(type(caught.exception), InvalidRows)
            self.assertIs(caught.exception.value, value)
            self.assertEqual(repr(value), before)

    def test_letters_that_go_no_right_way(self):
        send, take = ("send", "x", "b"), ("take", "x")
        self.check_no_rows([
            {"a": [send]}, {"a": [("send", "x", "a")]}, {"a": [("send", "x", "a"), take]},
            {"a": [send, send], "b": []}, {"a": [send], "b": [("send", "x", "a")]}, {"a": [send], "b": [take, take]},
            {"a": [send], "b": [], "c": [send]}, {"a": [send, take], "b": []}, {"a": [send], "b": [], "c": [take]},
            {"a": [send], "b": [take], "c": [take]}, {"a": [send], "b": [("take", "y")]}, {"a": [], "b": [take]},
        ])

    def test_deeds_that_are_none(self):
        sends = [
            ["send", "x", "b"], ("send", "x"), ("send", "x", "b", "c"), ("send",), ("sends", "x", "b"),
            ("Send", "x", "b"), ("send ", "x", "b"), ("take", "x", "b"), (True, "x", "b"), ("send", "X", "b"),
            ("send", "", "b"), ("send", "x1", "b"), ("send", "abcdefghi", "b"), ("send", "x ", "b"),
            ("send", "x\n", "b"),
            ("send", ["x"], "b"), ("send", "x", ["b"]), ("send", "x", None), ("send", "x", "b "), ("send", True, "b"),
            ("send", Run({}), "b"), (Run({}), "x", "b"), (), [], {}, None, "send", 0, True, Run({}),
            (("send", "x", "b"),),
        ]
        self.check_no_rows([{"a": [deed], "b": []} for deed in sends])
        takes = [
            ["take", "x"], ("take",), ("take", "x", "a"), ("takes", "x"), ("send", "x"), (None, "x"), ("take", ["x"]),
            ("take", True), ("take", "x "), ("take", "X"), ("take", None), (Run({}), "x"), "take", (("take", "x"),),
        ]
        self.check_no_rows([{"a": [("send", "x", "b")], "b": [deed]} for deed in takes])

    def test_parties_and_lists_that_are_none(self):
        good = {"a": [("send", "x", "b")], "b": [("take", "x")]}
        for key in ("", "A", "a ", "a\n", "abcdefghi", "a1", 1, 0, None, True, False, ("c",), (), Refused("c")):
            self.check_no_rows([{**good, key: []}, {key: []}])
        for row in (None, "", "x", {}, (), (("take", "x"),), 0, False, Run({}), [None], [[]], ["take", "x"]):
            self.check_no_rows([{**good, "b": row}, {"a": row}])
        self.check_no_rows([Run({}), Run(good), [], (), None, "", [("a", [])], ["a"], list(good.items()), 0, False])

    def test_odd_objects_are_no_rows(self):
        for value in odd_but({}, {"a": []}):
            self.assertIs(is_rows(value), False, value)

    def test_rows(self):
        for value in [*small_rows(), MIXED, {"abcdefgh": [("send", "stuvwxyz", "x")], "x": [("take", "stuvwxyz")]},
                      {"send": [("send", "send", "take")], "take": [("take", "send")]}]:
            self.assertIs(is_rows(value), True, value)


class Runs(unittest.TestCase):
    def test_what_a_run_is_made_of(self):
        run = Run(dict(reversed(list(MIXED.items()))))
        self.assertEqual(list(run.rows().items()), list(MIXED.items()))
        self.assertEqual(run.parties(), ["a", "b", "c", "d", "e"])
        self.assertEqual(run.letters(), ["a", "c", "e", "x"])
        self.assertEqual([Run({}).rows(), Run({}).parties(), Run({}).letters()], [{}, [], []])
        self.assertEqual([Run({"b": [], "a": []}).parties(), Run({"b": [], "a": []}).letters()], [["a", "b"], []])

    def test_rows_that_were_passed_may_be_changed(self):
        rows = {name: list(row) for name, row in EXAMPLE.items()}
        run = Run(rows)
        rows["a"].pop()
        rows["d"] = []
        self.assertEqual(run.rows(), EXAMPLE)
        run.rows()["a"].clear()
        run.rows().clear()
        run.parties().clear()
        run.letters().clear()
        self.assertEqual([run.rows(), run.parties(), run.letters()], [EXAMPLE, ["a", "b", "c"], ["x", "y", "z"]])

    def test_runs_are_equal_exactly_if_their_rows_are(self):
        made = [[Run(rows) for rows in small_rows()] for _ in range(2)]
        for one, other in itertools.product(*made):
            self.assertIs(one == other, one.rows() == other.rows())
            self.assertIs(one != other, one.rows() != other.rows())
        self.assertEqual(Run(EXAMPLE), Run(dict(reversed(list(EXAMPLE.items())))))
        self.assertNotEqual(Run({}), Run({"a": []}))
        for value in not_runs() + [EXAMPLE]:
            self.assertFalse(Run(EXAMPLE) == value or value == Run(EXAMPLE))


class Letters(unittest.TestCase):
    def test_who_sent_what_to_whom_and_what_lies(self):
        run = mixed()
        self.assertEqual([sender_of(run, letter) for letter in "acex"], ["a", "b", "c", "a"])
        self.assertEqual([receiver_of(run, letter) for letter in "acex"], ["c", "a", "e", "b"])
        self.assertEqual([lies(run, letter) for letter in "acex"], [False, True, True, True])
        self.assertEqual([lying(run), lying(example()), lying(Run({}))], [["c", "e", "x"], [], []])

    def test_small_runs_against_their_rows(self):
        for rows in small_rows():
            run = Run(rows)
            taken = [deed[1] for row in rows.values() for deed in row if deed[0] == "take"]
            for party, row in rows.items():
                for deed in [deed for deed in row if deed[0] == "send"]:
                    self.assertEqual((sender_of(run, deed[1]), receiver_of(run, deed[1])), (party, deed[2]))
                    self.assertIs(lies(run, deed[1]), deed[1] not in taken)
            self.assertEqual(lying(run), sorted(set(run.letters()) - set(taken)))

    def test_lanes(self):
        run = Run({"a": [("send", "z", "b"), ("send", "m", "c"), ("send", "c", "b")],
                   "b": [("take", "c"), ("send", "d", "a")], "c": []})
        found = {pair: lane(run, *pair) for pair in itertools.permutations("abc", 2)}
        self.assertEqual({pair: letters for pair, letters in found.items() if letters},
                         {("a", "b"): ["z", "c"], ("a", "c"): ["m"], ("b", "a"): ["d"]})
        self.assertEqual(len(found), 6)


class Kept(unittest.TestCase):
    def test_deeds_of_these_letters_alone(self):
        self.assertEqual(kept(mixed(), ["a", "x"]).rows(), {
            "a": [("send", "x", "b"), ("send", "a", "c")], "b": [], "c": [("take", "a")], "d": [], "e": []})
        self.assertEqual(kept(mixed(), []).rows(), {name: [] for name in "abcde"})
        self.assertEqual(kept(mixed(), ["a", "c", "e", "x"]), mixed())
        self.assertEqual(kept(Run({}), []), Run({}))

    def test_small_runs_against_their_rows(self):
        made = [Run(rows) for rows in small_rows()]
        for run in made:
            letters = run.letters()
            parts = [kept(run, list(some)) for many in range(len(letters) + 1)
                     for some in itertools.combinations(letters, many)]
            for part in parts:
                some = part.letters()
                self.assertEqual(part.rows(), {party: [deed for deed in row if deed[1] in some]
                                               for party, row in run.rows().items()})
                self.assertIs(is_kept_of(part, run), True)
            for other in made:
                self.assertIs(is_kept_of(other, run), other in parts)

    def test_what_is_not_kept_of_another_run(self):
        run = example()
        for one in [
            busy(kept(run, ["y"])), Run({**kept(run, ["y"]).rows(), "d": []}), Run({}), turned_back(run),
            called(run, {"x": "y", "y": "x", "z": "z"}), Run({"a": [("send", "x", "b")], "b": [], "c": []}),
            Run({**EXAMPLE, "c": [("take", "y"), ("take", "z")]}),
            Run({"a": [("send", "x", "c")], "b": [], "c": [("take", "x")]}),
        ]:
            self.assertIs(is_kept_of(one, run), False, one.rows())
        self.assertIs(is_kept_of(run, kept(run, ["y"])), False)
        self.assertIs(is_kept_of(Run({}), Run({})), True)


class Names(unittest.TestCase):
    def test_letters_called_otherwise(self):
        run = called(example(), {"x": "y", "y": "x", "z": "abcdefgh"})
        self.assertEqual(run.rows(), {
            "a": [("send", "y", "b"), ("send", "x", "c")], "b": [("take", "y"), ("send", "abcdefgh", "c")],
            "c": [("take", "abcdefgh"), ("take", "x")]})
        self.assertEqual(called(Run({"a": []}), {}), Run({"a": []}))
        shared = Run({"a": [("send", "a", "b")], "b": [("take", "a")]})
        self.assertEqual(called(shared, {"a": "b"}).rows(), {"a": [("send", "b", "b")], "b": [("take", "b")]})

    def test_parties_called_otherwise(self):
        run = moved(example(), {"a": "c", "b": "a", "c": "x"})
        self.assertEqual(list(run.rows().items()), [
            ("a", [("take", "x"), ("send", "z", "x")]), ("c", [("send", "x", "a"), ("send", "y", "x")]),
            ("x", [("take", "z"), ("take", "y")])])
        self.assertEqual(moved(Run({}), {}), Run({}))
        shared = Run({"a": [("send", "a", "b")], "b": [("take", "a")]})
        self.assertEqual(moved(shared, {"a": "b", "b": "a"}).rows(), {"a": [("take", "a")], "b": [("send", "a", "a")]})

    def test_there_and_back(self):
        for rows in small_rows():
            run = Run(rows)
            there = dict(zip(run.letters(), ["one", "two", "three"]))
            self.assertEqual(called(called(run, there), {new: old for old, new in there.items()}), run)
            there = dict(zip(run.parties(), run.parties()[1:] + run.parties()[:1]))
            self.assertEqual(moved(moved(run, there), {new: old for old, new in there.items()}), run)

    def test_named_by_senders(self):
        self.assertEqual(named(mixed()).rows(), {
            "a": [("send", "a", "b"), ("send", "b", "c")], "b": [("send", "c", "a")],
            "c": [("take", "b"), ("send", "d", "e")], "d": [], "e": []})
        self.assertEqual(named(Run({})), Run({}))

    def test_named_with_as_many_letters_as_the_alphabet(self):
        self.assertEqual(named(chain(26)).rows()["b"], [("take", letter) for letter in "abcdefghijklmnopqrstuvwxyz"])
        for many in (27, 30):
            run = chain(many)
            with self.assertRaises(Refused) as caught:
                named(run)
            self.assertIs(caught.exception.value, run)

    def test_busy(self):
        self.assertEqual(busy(mixed()).parties(), ["a", "b", "c", "e"])
        self.assertEqual(busy(example()), example())
        self.assertEqual(busy(Run({"a": [], "b": []})), Run({}))
        sent = {"a": [("send", "x", "c")], "c": []}
        self.assertEqual(busy(Run({**sent, "b": []})), Run(sent))

    def test_alike(self):
        run = example()
        self.assertIs(are_alike(Run({}), Run({"q": []})), True)
        self.assertIs(are_alike(Run({**EXAMPLE, "d": []}), called(run, {"x": "q", "y": "a", "z": "m"})), True)
        self.assertIs(are_alike(run, moved(run, {"a": "b", "b": "a", "c": "c"})), False)
        self.assertIs(are_alike(run, kept(run, ["x", "y"])), False)
        self.assertIs(are_alike(run, Run({**EXAMPLE, "c": [("take", "y"), ("take", "z")]})), False)
        one, other = [Run({"a": [("send", letter, "b")], "b": []}) for letter in "xy"]
        self.assertIs(are_alike(one, other), True)

    def test_alike_tells_the_first_run_of_too_many_letters(self):
        many, more, few = chain(27), chain(28), example()
        for one, other, told in [
            (many, few, many), (few, more, more), (many, more, many), (more, many, more), (many, many, many),
        ]:
            with self.assertRaises(Refused) as caught:
                are_alike(one, other)
            self.assertIs(caught.exception.value, told)
        for one, other, error in [(many, None, InvalidRun), (None, many, InvalidRun)]:
            self.assertRaises(error, are_alike, one, other)
        self.assertIs(are_alike(chain(26), named(chain(26))), True)


class TurnedBack(CallCase):
    def test_each_letter_goes_back(self):
        run = turned_back(example())
        self.assertEqual(run.rows(), {"a": [("take", "y"), ("take", "x")], "b": [("take", "z"), ("send", "x", "a")],
                                      "c": [("send", "y", "a"), ("send", "z", "b")]})
        self.assertEqual(turned_back(Run({"a": []})), Run({"a": []}))

    def test_small_runs(self):
        for rows in small_rows():
            run = Run(rows)
            if lying(run):
                self.check_error(Call(turned_back, RUN), [run], Lies, run)
                continue
            back = turned_back(run)
            self.assertEqual(turned_back(back), run)
            for letter in run.letters():
                self.assertEqual((sender_of(back, letter), receiver_of(back, letter)),
                                 (receiver_of(run, letter), sender_of(run, letter)))
            for party, row in run.rows().items():
                self.assertEqual([deed[1] for deed in back.rows()[party]], [deed[1] for deed in row][::-1])


if __name__ == "__main__":
    unittest.main()
