"""[62] to [68]: volleys, rounds and the delays that bar fewer, cores of runs and which letters have to go."""

import functools
import itertools
import random
import unittest

from postways.errors import InvalidKind, InvalidNumber, InvalidRun, Lies
from postways.kinds import KINDS, is_of, kinds_of
from postways.mending import (any_core, are_rounds, bars_rounds, blamed, cores, delay_of, fewest_left_out,
                              fewest_rounds, is_core, is_delay, is_left_out, is_volley, left_out, most_kept,
                              round_gaps, rounds_of)
from postways.primes import are_together, behind, is_prime, lots_of
from postways.rings import crossing, crown, detour
from postways.runs import Run, busy, kept, lying, turned_back
from tests.calls import Call, CallCase, EachCall, call_of, odd_but
from tests.counts import Counted
from tests.samples import (CROSSED, CROSSING, EXAMPLE, HELD, KNOT, LATE, LOST, MIXED, SWAPPED, all_parts,
                           all_runs_of_two, chain, chance_rows, chance_taken, small_rows)

# b goes back while a lies, c goes when b is taken
TALK = {"p": [("send", "a", "q"), ("take", "b"), ("send", "c", "q")],
        "q": [("send", "b", "p"), ("take", "a"), ("take", "c")]}
# a and b stand crossed, and c is taken ahead of b
TIED = {"p": [("send", "a", "q"), ("take", "b")], "q": [("take", "c"), ("send", "b", "p"), ("take", "a")],
        "r": [("send", "c", "q")]}
# each letter answers the one before it
TO_AND_FRO = {"p": [("send", "a", "q"), ("take", "b"), ("send", "c", "q"), ("take", "d")],
              "q": [("take", "a"), ("send", "b", "p"), ("take", "c"), ("send", "d", "p")]}
AS, BS, CS, AT, BT, CT = [(letter, word) for word in ("send", "take") for letter in "abc"]
TALK_RUN = ("run", lambda: Run(TALK), InvalidRun)
RUN = ("run", lambda: Run(LOST), InvalidRun)
KIND = ("kind", lambda: "box", InvalidKind)
IN_ROUNDS = [
    Call(is_volley, TALK_RUN),
    Call(rounds_of, TALK_RUN),
    Call(fewest_rounds, TALK_RUN),
    Call(are_rounds, TALK_RUN, ("value", lambda: [["a", "b"], ["c"]], None)),
    Call(bars_rounds, ("run", lambda: Run(LATE), InvalidRun)),
    Call(round_gaps, TALK_RUN),
    Call(delay_of, TALK_RUN),
    Call(is_delay, TALK_RUN, ("number", lambda: 1, InvalidNumber), ("value", lambda: [(BT, CS)], None)),
]
BY_KINDS = [
    Call(cores, RUN, KIND),
    Call(any_core, RUN, KIND),
    Call(is_core, RUN, KIND, ("value", lambda: ["x", "y"], None)),
    Call(left_out, RUN, KIND),
    Call(is_left_out, RUN, KIND, ("value", lambda: ["x"], None)),
    Call(fewest_left_out, RUN, KIND),
    Call(most_kept, RUN, KIND),
    Call(blamed, RUN, KIND),
]
GOOD = {InvalidKind: [], InvalidNumber: [0, 1, 2, 7, 10 ** 29]}


class Examples(unittest.TestCase):
    def test_the_block_of_the_document(self):
        talk = Run({"p": [("send", "a", "q"), ("take", "b"), ("send", "c", "q")],
                    "q": [("send", "b", "p"), ("take", "a"), ("take", "c")]})
        self.assertEqual(
            [is_volley(talk), rounds_of(talk), fewest_rounds(talk), bars_rounds(talk), round_gaps(talk),
             are_rounds(talk, [["a", "b", "c"]])],
            [False, [['a', 'b'], ['c']], 2, [], [('b', 'c')], False])
        self.assertEqual(
            [cores(talk, "hand"), left_out(talk, "hand"), fewest_left_out(talk, "hand"), most_kept(talk, "hand"),
             blamed(talk, "hand")],
            [[['a', 'b']], [['a'], ['b']], 1, [['a', 'c'], ['b', 'c']], {'a': 1, 'b': 1, 'c': 0}])
        tied = Run({"p": [("send", "a", "q"), ("take", "b")], "q": [("take", "c"), ("send", "b", "p"), ("take", "a")],
                    "r": [("send", "c", "q")]})
        self.assertEqual(
            [is_volley(tied), bars_rounds(tied), rounds_of(tied), is_delay(tied, 1, [(("c", "take"), ("b", "send"))]),
             is_delay(tied, 1, delay_of(tied)), is_delay(tied, 2, delay_of(tied))],
            [False, [], [['c'], ['a', 'b']], True, True, False])


class Wrong(EachCall, CallCase):
    calls, good = [*IN_ROUNDS, *BY_KINDS], GOOD

    def test_nothing_is_shared_for_any_kind(self):
        for kind in KINDS:
            for rows in (SWAPPED, HELD, CROSSED, EXAMPLE):
                for function in (cores, any_core, left_out, most_kept, blamed):
                    self.check_shares_nothing(Call(function, ("run", lambda: Run(rows), InvalidRun),
                                                   ("kind", lambda: kind, InvalidKind)))

    def test_runs_in_which_a_letter_lies(self):
        for call in IN_ROUNDS:
            for rows in (MIXED, HELD, LOST):
                run = Run(rows)
                self.check_error(call, [run, *call.good()[1:]], Lies, run)
                self.check_error(call, [run, *[None] * len(call.good()[1:])], Lies, run)

    def test_letters_may_lie_where_kinds_are_asked(self):
        for rows in (MIXED, HELD, LOST):
            for kind in KINDS:
                self.assertEqual(is_of(Run(rows), kind), cores(Run(rows), kind) == [])

    def test_texts_that_are_no_kinds(self):
        for call in BY_KINDS:
            self.check_wrong(call, 1, ["Box", "box ", "BOX", "lane", "", ("box",), ["box"], True, KINDS, None, Run({})])

    def test_numbers_that_are_no_counts(self):
        self.check_wrong(call_of(IN_ROUNDS, is_delay), 1, [True, False, -1, "1", None, [1], (1,), -10 ** 29, {1: 1}])

    def test_lists_that_are_no_rounds(self):
        wrongs = [[["a", "b"]], [["c"], ["a", "b"]], [["a", "b", "c"]], [["a"], ["b"], ["c"]], [["a", "b"], [], ["c"]],
                  [["b", "a"], ["c"]], [("a", "b"), ("c",)], (["a", "b"], ["c"]), [["a", "b"], ["c"], ["c"]],
                  [["a", "b"], ["b", "c"]], [["a", "b"], "c"], ["a", "b", "c"], [["a", "b"], ["c"], []], [],
                  [["a", "a", "b"], ["c"]], [["a", "b"], ["d"]], [["a", "b"], [True]], [["a", "b"], None], {"a": ["c"]},
                  [["a", "b"], {"c": "c"}], [[["a"], ["b"]], ["c"]], [["a", "b"], [Run({})]], [["b"], ["a", "c"]]]
        call = call_of(IN_ROUNDS, are_rounds)
        self.check_judge(call, wrongs)
        self.check_judge(call, odd_but())
        self.check_judge(Call(are_rounds, ("run", lambda: Run({"a": []}), InvalidRun), ("value", list, None)),
                         [[[]], (), None, [["a"]], *odd_but([])])

    def test_lists_that_are_no_delays(self):
        call = call_of(IN_ROUNDS, is_delay)
        wrongs = [((BT, CS),), [[BT, CS]], [(CS, BT)], [(BT, BT)], [(AT, CS)], [(AS, CS)], [(BT, CS, CT)], [(BT,)],
                  [BT, CS], [], (BT, CS), [(BT, CS), (BT, CS)], [(BT, CS), (AS, CT)], [(BT, CS), None], [(BT, CS), True],
                  [(BT, ("c", "lie"))], [(BT, ("d", "send"))], [(list(BT), list(CS))], {BT: CS}, [(BT, CT)], "delay",
                  [((BT, CS), (BT, CS))], [(BT, CS), (("c", "send"), ("c", "sent"))], Run(TALK), [(BT, [CS])]]
        self.check_judge(call, wrongs)
        self.check_judge(call, odd_but())
        # nothing is a delay by its number alone
        for value in odd_but([]):
            self.assertIs(is_delay(Run(TALK), 0, value), False)

    def test_lists_that_are_no_cores_and_not_left_out(self):
        shared = [("x", "y"), ["y", "x"], "xy", ["x", "x"], ["x", "z"], [True], [["x", "y"]], {"x": "y"}, None, ["x "],
                  [("x", "y")], ["x", "y", None], ["X"]]
        self.check_judge(call_of(BY_KINDS, is_core), [[], ["x"], ["y"], *shared])
        self.check_judge(call_of(BY_KINDS, is_left_out), [[], ["x", "y"], *shared])
        self.check_judge(call_of(BY_KINDS, is_core), odd_but())
        self.check_judge(call_of(BY_KINDS, is_left_out), odd_but(["x"]))
        self.assertIs(is_left_out(Run(LOST), "box", ["y"]), True)

    def test_keys_ascend(self):
        for kind in KINDS:
            for rows in (KNOT, CROSSING, MIXED, LATE):
                told = blamed(Run(rows), kind)
                self.assertEqual(list(told), Run(rows).letters())


class InRounds:
    """What rounds of a run are, by the words of the document."""

    def __init__(self, run):
        self.run = run
        self.letters = run.letters()
        self.ahead = Counted(run.rows()).ahead

    def is_volley(self, letters):
        """Whether what is kept of some letters is a volley, by what is ahead in all its lines."""
        ahead = Counted(kept(self.run, letters).rows()).ahead or ()
        return not any(one[1] == "take" and other[1] == "send" for one, other in ahead)

    def are_rounds(self, lots):
        """Whether lists of letters are rounds."""
        whole = kept(self.run, [])
        for lot in lots:
            whole = behind(whole, kept(self.run, lot))
        return whole == self.run and all(self.is_volley(lot) for lot in lots)

    @functools.cached_property
    def all_rounds(self):
        """All rounds of the run, by all ways to give each letter a number."""
        found = []
        for numbers in itertools.product(range(len(self.letters)), repeat=len(self.letters)):
            lots = [[letter for letter, at in zip(self.letters, numbers) if at == number]
                    for number in range(max(numbers, default=-1) + 1)]
            if all(lots) and self.are_rounds(lots):
                found.append(lots)
        return found


def place_in(rounds, letter):
    return next(k for k, lot in enumerate(rounds) if letter in lot)


def cost_of(delay):
    return sum(one[1] == "take" and other[1] == "send" for one, other in delay)


class SmallRounds(unittest.TestCase):
    """Rounds and delays, held against all ways to give each letter a number."""

    @classmethod
    def setUpClass(cls):
        chance = random.Random(62)
        runs = [Run(rows) for rows in [*small_rows(), TALK, TIED, CROSSING] if not lying(Run(rows))]
        runs += [Run(chance_taken(chance, 2 + k % 3, 3 + k % 2)) for k in range(60)]
        runs += [run for run in all_runs_of_two() if not lying(run)][::2]
        runs += [crown(2), crown(4), detour(2), crossing(2), Run({"a": []}), chain(4), Run(TO_AND_FRO), Run(KNOT)]
        runs += [turned_back(detour(2)), behind(detour(2), chain(1)), behind(chain(1), Run(LATE))]
        cls.told = [InRounds(run) for run in runs]

    def test_volleys(self):
        seen = set()
        for told in self.told:
            expected = told.is_volley(told.letters)
            seen.add(expected)
            self.assertIs(is_volley(told.run), expected)
            # exactly if some line has all sends earlier than all takes
            words = [[word for _, word in line] for line in Counted(told.run.rows()).lines]
            self.assertIs(is_volley(told.run), any(line == sorted(line) for line in words))
        self.assertEqual(seen, {True, False})

    def test_gaps(self):
        for told in self.told:
            pairs = itertools.product(told.letters, repeat=2)
            expected = [(one, other) for one, other in pairs if ((one, "take"), (other, "send")) in (told.ahead or ())]
            self.assertEqual(round_gaps(told.run), expected)

    def test_rounds(self):
        many = set()
        for told in self.told:
            every, rounds = told.all_rounds, rounds_of(told.run)
            if not every:
                self.assertEqual([rounds, fewest_rounds(told.run)], [None, None])
                continue
            self.assertIn(rounds, every)
            for other in every:
                for letter in told.letters:
                    self.assertLessEqual(place_in(rounds, letter), place_in(other, letter))
            self.assertEqual(fewest_rounds(told.run), min(map(len, every)))
            many.add(len(rounds))
        self.assertEqual(many, {0, 1, 2, 3, 4})

    def test_rounds_are_judged(self):
        for told in self.told[::2]:
            if len(told.letters) > 3:
                continue
            every = told.all_rounds
            lists = [list(letters) for letters in all_parts(told.letters)]
            for size in range(4):
                for lots in itertools.product(lists, repeat=size):
                    self.assertIs(are_rounds(told.run, list(lots)), list(lots) in every)
            for lots in every:
                self.assertIs(are_rounds(told.run, lots), True)

    def test_gaps_are_never_in_one_round(self):
        for told in self.told:
            for lots in told.all_rounds:
                for one, other in round_gaps(told.run):
                    self.assertLess(place_in(lots, one), place_in(lots, other))

    def test_what_bars_rounds(self):
        barred = 0
        for told in self.told:
            expected = [lot for lot in lots_of(told.run) if not told.is_volley(lot)]
            self.assertEqual(bars_rounds(told.run), expected)
            self.assertIs(told.all_rounds == [], expected != [])
            barred += expected != []
        self.assertGreater(barred, 5)

    def test_kinds_of_runs_that_have_rounds(self):
        for told in self.told:
            if rounds_of(told.run) is not None:
                kinds = kinds_of(told.run)
                self.assertIs("lanes" in kinds, "causal" in kinds)
                self.assertIs("box" in kinds, "belt" in kinds)

    def test_delays(self):
        for told in self.told:
            rounds, delay = rounds_of(told.run), delay_of(told.run)
            if not rounds:
                self.assertIsNone(delay)
                continue
            self.assertTrue(self.is_plain_delay(told, delay))
            self.assertEqual(cost_of(delay), len(rounds) - 1)
            for number in range(len(rounds) + 2):
                self.assertIs(is_delay(told.run, number, delay), number < len(rounds))

    def is_plain_delay(self, told, delay):
        """Whether a list of tuples of events is a delay."""
        ahead = told.ahead or ()
        linked = all(one[1][0] == other[0][0] for one, other in zip(delay, delay[1:]))
        return linked and all(wait in ahead for wait in delay)

    def test_no_delay_costs_more(self):
        for told in self.told[::3]:
            rounds = rounds_of(told.run)
            if rounds is None or len(told.letters) > 3:
                continue
            for size in range(3):
                for delay in itertools.permutations(sorted(told.ahead or ()), size):
                    expected = self.is_plain_delay(told, delay)
                    self.assertIs(is_delay(told.run, 0, list(delay)), expected)
                    self.assertIs(is_delay(told.run, max(len(rounds), 1), list(delay)), False)
                    if expected:
                        for number in range(3):
                            self.assertIs(is_delay(told.run, number, list(delay)), cost_of(delay) >= number)


class SmallCores(unittest.TestCase):
    """Cores, lists left out and most kept, held against all sets of letters."""

    @classmethod
    def setUpClass(cls):
        chance = random.Random(65)
        rows = [*small_rows()[::2], MIXED, KNOT, CROSSING, TALK, HELD, LOST, SWAPPED]
        rows += [chance_rows(chance, 2 + k % 3, 4) for k in range(12)]
        cls.told = [(run, kind, cls.kinds_of_parts(run)) for run in map(Run, rows) for kind in KINDS]

    @staticmethod
    def kinds_of_parts(run):
        """The dictionary from the sets of letters to the kinds of which some line of what is kept serves them."""
        found = {}
        for letters in all_parts(run.letters()):
            serving = Counted(kept(run, letters).rows()).serving
            found[tuple(letters)] = [kind for kind in KINDS if serving[kind]]
        return found

    def test_cores(self):
        seen = set()
        for run, kind, kinds in self.told:
            bad = [set(letters) for letters in kinds if kind not in kinds[letters]]
            expected = sorted(sorted(letters) for letters in bad if not any(other < letters for other in bad))
            seen.update(map(len, expected))
            self.assertEqual(cores(run, kind), expected)
            self.assertIn(any_core(run, kind), expected or [None])
            self.assertEqual(expected == [], is_of(run, kind))
            self.assertEqual(blamed(run, kind), {letter: sum(letter in core for core in expected)
                                                 for letter in run.letters()})
            for letters in all_parts(run.letters()):
                self.assertIs(is_core(run, kind, letters), letters in expected)
        self.assertEqual(seen, {1, 2, 3, 4})

    def test_what_is_left_out(self):
        for run, kind, kinds in self.told:
            letters = set(run.letters())
            good = [letters - set(some) for some in kinds if kind in kinds[some]]
            expected = sorted(sorted(some) for some in good if not any(other < some for other in good))
            self.assertEqual(left_out(run, kind), expected)
            self.assertEqual(fewest_left_out(run, kind), min(map(len, expected)))
            for some in all_parts(run.letters()):
                self.assertIs(is_left_out(run, kind, some), some in expected)
            longest = max(len(some) for some in kinds if kind in kinds[some])
            self.assertEqual(most_kept(run, kind),
                             sorted(list(some) for some in kinds if kind in kinds[some] and len(some) == longest))

    def test_what_is_left_out_has_a_letter_of_each_core(self):
        for run, kind, _ in self.told:
            found = cores(run, kind)
            hits = [set(some) for some in all_parts(run.letters()) if all(set(some) & set(core) for core in found)]
            expected = sorted(sorted(some) for some in hits if not any(other < some for other in hits))
            self.assertEqual(left_out(run, kind), expected)
            for letter, many in blamed(run, kind).items():
                self.assertIs(many == 0, not any(letter in some for some in expected))

    def test_cores_where_nothing_lies(self):
        told = 0
        for run, kind, _ in self.told:
            if not lying(run):
                for core in cores(run, kind):
                    told += 1
                    self.assertIs(is_prime(busy(kept(run, core))), True)
                    for letter in core:
                        self.assertIs(are_together(run, core[0], letter), True)
        self.assertGreater(told, 20)


class Edges(unittest.TestCase):
    def test_runs_without_letters(self):
        for run in (Run({}), Run({"a": [], "b": []})):
            self.assertEqual([is_volley(run), rounds_of(run), fewest_rounds(run), bars_rounds(run), round_gaps(run),
                              delay_of(run)], [True, [], 0, [], [], None])
            self.assertEqual([are_rounds(run, []), are_rounds(run, [[]]), is_delay(run, 0, []), is_delay(run, 1, [])],
                             [True, False, True, False])
            for kind in KINDS:
                self.assertEqual([cores(run, kind), any_core(run, kind), left_out(run, kind), most_kept(run, kind),
                                  fewest_left_out(run, kind), blamed(run, kind)], [[], None, [[]], [[]], 0, {}])
                self.assertEqual([is_core(run, kind, []), is_left_out(run, kind, [])], [False, True])

    def test_runs_of_the_kind(self):
        run = Run(EXAMPLE)
        for kind in KINDS:
            self.assertEqual([cores(run, kind), any_core(run, kind), left_out(run, kind), fewest_left_out(run, kind)],
                             [[], None, [[]], 0])
            self.assertEqual([most_kept(run, kind), blamed(run, kind)], [[["x", "y", "z"]], {"x": 0, "y": 0, "z": 0}])
            self.assertEqual([is_core(run, kind, ["x"]), is_left_out(run, kind, []), is_left_out(run, kind, ["x"])],
                             [False, True, False])

    def test_where_no_letter_may_stay(self):
        run = Run({"a": [("send", "x", "b"), ("send", "y", "b")], "b": []})
        self.assertEqual([cores(run, "hand"), left_out(run, "hand"), most_kept(run, "hand")],
                         [[["x"], ["y"]], [["x", "y"]], [[]]])
        self.assertEqual([fewest_left_out(run, "hand"), blamed(run, "hand"), is_left_out(run, "hand", ["x"])],
                         [2, {"x": 1, "y": 1}, False])
        self.assertEqual([cores(run, "belt"), most_kept(run, "belt")], [[], [["x", "y"]]])

    def test_makes_are_cores_themselves(self):
        for run, kind in ((crown(4), "hand"), (detour(3), "causal"), (crossing(2), "box")):
            self.assertEqual([cores(run, kind), any_core(run, kind)], [[run.letters()], run.letters()])
            self.assertEqual(left_out(run, kind), [[letter] for letter in run.letters()])

    def test_rounds_of_crowns_and_chains(self):
        self.assertEqual([rounds_of(crown(4)), rounds_of(chain(3)), delay_of(crown(4)), delay_of(chain(3))],
                         [[["a", "b", "c", "d"]], [["la", "lb", "lc"]], [], []])
        self.assertEqual([rounds_of(detour(2)), bars_rounds(detour(2)), delay_of(detour(2))],
                         [None, [["a", "b", "far"]], None])

    def test_idle_parties_mean_nothing(self):
        run = Run({**TALK, "idle": []})
        self.assertEqual([rounds_of(run), are_rounds(run, [["a", "b"], ["c"]]), are_rounds(Run(TALK), rounds_of(run))],
                         [[["a", "b"], ["c"]], True, True])

    def test_a_delay_over_letters_of_one_round(self):
        # c waits for a, which goes in one round with b, which waits for d
        run = Run({"p": [("take", "d"), ("send", "b", "q"), ("take", "a"), ("send", "c", "q")],
                   "q": [("send", "d", "p"), ("send", "a", "p"), ("take", "b"), ("take", "c")]})
        self.assertEqual(rounds_of(run), [["d"], ["a", "b"], ["c"]])
        delay = [(("d", "take"), ("b", "send")), (("b", "send"), ("a", "take")), (("a", "take"), ("c", "send"))]
        self.assertEqual([is_delay(run, number, delay) for number in (0, 1, 2, 3)], [True, True, True, False])
        self.assertIs(is_delay(run, 2, delay_of(run)), True)
        self.assertIs(is_delay(run, 1, delay[:1] + delay[2:]), False)

    def test_a_delay_may_have_steps_within_one_letter(self):
        run = Run(TALK)
        self.assertIs(is_delay(run, 1, [(BS, BT), (BT, CS), (CS, CT)]), True)
        self.assertIs(is_delay(run, 2, [(BS, BT), (BT, CS), (CS, CT)]), False)


if __name__ == "__main__":
    unittest.main()
