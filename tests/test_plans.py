"""[81] to [86]: plans, their ways, of which kinds the runs of all ways are, and which pieces are alike."""

import itertools
import random
import unittest

from postways.errors import (InvalidKind, InvalidNames, InvalidNumber, InvalidPieces, InvalidPlan, InvalidWay,
                             InvalidWays, Refused)
from postways.kinds import KINDS, is_of
from postways.plans import (Plan, alike_pieces, bad_way, endless, is_plan_of, is_way, least_kind_of, many_ways,
                            on_ways, run_of_way, runs_within, ways_within)
from postways.primes import behind
from postways.rings import crossing, crown, detour
from postways.runs import Run, are_alike, busy, called, named
from tests.calls import Call, CallCase, EachCall, call_of, odd_but, shown, spoil
from tests.samples import (CROSSED, CROSSING, EXAMPLE, HELD, KNOT, LATE, LOST, SWAPPED, chance_taken, deep)

ASK = {"p": [("send", "x", "q")], "q": [("take", "x")]}
BOTH = {"p": [("send", "x", "q"), ("take", "y")], "q": [("send", "y", "p"), ("take", "x")]}
WAYS = {"ask": ["ask", "both"], "both": [], "more": ["ask"]}


def pieces():
    return {"ask": Run(ASK), "both": Run(BOTH), "more": Run(ASK)}


def ways():
    return {name: list(others) for name, others in WAYS.items()}


def example():
    return Plan(pieces(), ways(), ["ask"], ["ask", "both"])


PLAN = ("plan", example, InvalidPlan)
KIND = ("kind", lambda: "belt", InvalidKind)
NUMBER = ("number", lambda: 2, InvalidNumber)
MAKING = Call(Plan, ("pieces", pieces, InvalidPieces), ("ways", ways, InvalidWays),
              ("firsts", lambda: ["ask"], InvalidNames), ("lasts", lambda: ["ask", "both"], InvalidNames))
CALLS = [
    Call(is_way, PLAN, ("value", lambda: ["ask", "ask", "both"], None)),
    Call(run_of_way, PLAN, ("way", lambda: ["ask", "both"], InvalidWay)),
    Call(on_ways, PLAN),
    Call(ways_within, PLAN, NUMBER),
    Call(many_ways, PLAN, NUMBER),
    Call(is_plan_of, PLAN, KIND),
    Call(bad_way, PLAN, ("kind", lambda: "hand", InvalidKind)),
    Call(least_kind_of, PLAN),
    Call(runs_within, PLAN, NUMBER),
    Call(alike_pieces, PLAN),
    Call(endless, PLAN),
]
COUNTS = [0, 1, 2, 7, 10 ** 29]
GOOD = {InvalidPieces: [{}, {"a": Run({})}], InvalidNames: [[]], InvalidNumber: COUNTS}


class Examples(unittest.TestCase):
    def test_the_block_of_the_document(self):
        ask = Run({"p": [("send", "x", "q")], "q": [("take", "x")]})
        both = Run({"p": [("send", "x", "q"), ("take", "y")], "q": [("send", "y", "p"), ("take", "x")]})
        plan = Plan({"ask": ask, "both": both, "more": ask}, {"ask": ["ask", "both"], "both": [], "more": ["ask"]},
                    ["ask"], ["ask", "both"])
        self.assertEqual(
            [on_ways(plan), ways_within(plan, 2), many_ways(plan, 9), endless(plan), alike_pieces(plan)],
            [['ask', 'both'], [['ask'], ['ask', 'ask'], ['ask', 'both']], 2, True, [('ask', 'more')]])
        self.assertEqual(
            [is_plan_of(plan, "belt"), least_kind_of(plan), bad_way(plan, "hand"),
             run_of_way(plan, ["ask", "both"]).rows()["q"], len(runs_within(plan, 3))],
            [True, 'belt', ['ask', 'both'], [('take', 'a'), ('send', 'c', 'p'), ('take', 'b')], 5])


class Wrong(EachCall, CallCase):
    calls, good = [MAKING, *CALLS], GOOD

    def test_nothing_is_shared_for_any_number_or_kind(self):
        for number in range(5):
            for function in (ways_within, many_ways, runs_within):
                self.check_shares_nothing(Call(function, PLAN, ("number", lambda: number, InvalidNumber)))
        for kind in KINDS:
            self.check_shares_nothing(Call(bad_way, PLAN, ("kind", lambda: kind, InvalidKind)))

    def test_objects_that_are_no_pieces(self):
        lost = Run(LOST)
        wrongs = [{"ask": lost}, {"ask": Run(ASK), "both": Run(HELD)}, {"ask": ASK}, {"Ask": Run(ASK)},
                  {"ask ": Run(ASK)}, {"": Run(ASK)}, {1: Run(ASK)}, {None: Run(ASK)}, {("ask",): Run(ASK)},
                  {"abcdefghi": Run(ASK)}, {"ask": [Run(ASK)]}, {"ask": None}, [Run(ASK)], [("ask", Run(ASK))],
                  (("ask", Run(ASK)),), Run(ASK), "ask", example(), {"ask": example()}, {True: Run(ASK)},
                  {"ask": deep(lambda inner: [inner])}, {"ask": (Run(ASK),)}]
        self.check_wrong(MAKING, 0, wrongs)

    def test_objects_that_are_no_ways_between_pieces(self):
        wrongs = [{**WAYS, "more": ["both", "ask"]}, {**WAYS, "more": ["ask", "ask"]}, {**WAYS, "more": ["none"]},
                  {**WAYS, "less": []}, {name: WAYS[name] for name in ("ask", "both")}, {**WAYS, "more": ("ask",)},
                  {**WAYS, "more": "ask"}, {**WAYS, "more": None}, {**WAYS, "more": [True]}, {**WAYS, "more": [["ask"]]},
                  {**WAYS, "more": {"ask": "ask"}}, list(WAYS.items()), {}, [], {**WAYS, "more": ["ask "]},
                  {"Ask": [], "both": [], "more": []}, {**WAYS, "more": [Run(ASK)]}, {**WAYS, "more": [("ask",)]},
                  {"ask": [], "both": [], ("more",): []}, example()]
        self.check_wrong(MAKING, 1, wrongs)

    def test_lists_that_are_no_names_of_pieces(self):
        wrongs = [["both", "ask"], ["ask", "ask"], ["less"], ("ask",), "ask", None, [True], [["ask"]], {"ask": "ask"},
                  ["ask", None], ["ask "], ["Ask"], [("ask",)], [Run(ASK)], WAYS, True, 0]
        for position in (2, 3):
            self.check_wrong(MAKING, position, wrongs)

    def test_lists_that_are_no_ways(self):
        wrongs = [[], ["both"], ["both", "ask"], ["more"], ["more", "ask"], ["ask", "more"], ["ask", "both", "ask"],
                  ("ask",), "ask", ["ask", None], ["ask", "Both"], ["ask", "both "], [["ask"]], {"ask": "ask"},
                  [("ask", "both")], [True], ["ask", ["both"]], None, [Run(ASK)], example(), ["less"],
                  ["ask", None, "ask"], ["ask", ["ask"], "ask"], ["ask", "less", "both"], [None, "ask"], [["ask"], "ask"]]
        self.check_wrong(call_of(CALLS, run_of_way), 1, wrongs)
        self.check_judge(call_of(CALLS, is_way), wrongs)
        self.check_judge(call_of(CALLS, is_way), odd_but())
        # a name that is no last one
        plan = Plan(pieces(), ways(), ["ask", "more"], ["both"])
        self.assertEqual([is_way(plan, way) for way in (["ask"], ["more"], ["more", "ask"], ["more", "ask", "both"])],
                         [False, False, False, True])

    def test_ways_of_more_than_twenty_six_letters_are_refused(self):
        call = call_of(CALLS, run_of_way)
        for way in (["ask"] * 25 + ["both"], ["ask"] * 26 + ["both"], ["ask"] * 27):
            self.check_error(call, [example(), way], Refused, way)
        for way in (["ask"] * 26, ["ask"] * 24 + ["both"]):
            self.assertEqual(len(run_of_way(example(), way).letters()), 26)
        wrong = ["ask"] * 27 + ["more"]
        self.check_error(call, [example(), wrong], InvalidWay, wrong)

    def test_numbers_that_are_no_counts(self):
        for function in (ways_within, many_ways, runs_within):
            self.check_wrong(call_of(CALLS, function), 1,
                             [True, False, -1, "2", None, [2], (2,), {2: 2}, -10 ** 29, Run({}), example()])

    def test_texts_that_are_no_kinds(self):
        wrongs = ["Belt", "belt ", "", None, True, ("belt",), ["belt"], KINDS]
        for function in (is_plan_of, bad_way):
            self.check_wrong(call_of(CALLS, function), 1, wrongs)
            # also where there is nothing that could be of a kind
            empty = Call(function, ("plan", lambda: Plan({}, {}, [], []), InvalidPlan), KIND)
            self.check_wrong(empty, 1, wrongs)

    def test_what_was_passed_and_told_can_be_changed(self):
        given = MAKING.good()
        plan = Plan(*given)
        before = shown(plan)
        for value in given:
            spoil(value)
        for name in ("pieces", "ways", "firsts", "lasts"):
            self.assertIsNot(getattr(plan, name)(), getattr(plan, name)())
            spoil(getattr(plan, name)())
        self.assertEqual(shown(plan), before)

    def test_keys_ascend(self):
        turned = {name: Run(ASK) for name in ("z", "b", "q")}
        plan = Plan(turned, {"q": [], "z": ["b"], "b": ["q", "z"]}, [], ["b"])
        self.assertEqual([list(plan.pieces()), list(plan.ways())], [["b", "q", "z"]] * 2)


class Equality(unittest.TestCase):
    def test_plans_are_equal_if_all_that_they_tell_is(self):
        plan = example()
        self.assertTrue(plan == example() and plan == plan and not plan != example())
        turned = {name: pieces()[name] for name in ("more", "both", "ask")}
        self.assertEqual(Plan(turned, {name: WAYS[name] for name in turned}, ["ask"], ["ask", "both"]), plan)
        others = [
            Plan({**pieces(), "more": Run(BOTH)}, ways(), ["ask"], ["ask", "both"]),
            Plan(pieces(), {**ways(), "both": ["ask"]}, ["ask"], ["ask", "both"]),
            Plan(pieces(), ways(), ["more"], ["ask", "both"]), Plan(pieces(), ways(), ["ask"], ["ask"]),
            Plan(pieces(), ways(), [], ["ask", "both"]), Plan({}, {}, [], []),
            Plan({**pieces(), "more": Run({**ASK, "r": []})}, ways(), ["ask"], ["ask", "both"]),
        ]
        for other in [*others, *odd_but()]:
            self.assertTrue(plan != other and not plan == other and not other == plan)


def plain_ways(plan, number):
    """All ways of just so many names, ascending, by all lists of names."""
    table, found = plan.ways(), []
    for way in itertools.product(table, repeat=number):
        linked = all(other in table[one] for one, other in zip(way, way[1:]))
        if way and way[0] in plan.firsts() and way[-1] in plan.lasts() and linked:
            found.append(list(way))
    return found


def plain_run(plan, way):
    """The named run of a way, put together piece by piece."""
    whole = Run({})
    for k, name in enumerate(way):
        piece = plan.pieces()[name]
        whole = behind(whole, called(piece, {letter: "abcdefgh"[k] + letter for letter in piece.letters()}))
    return named(whole)


def chance_plan(chance, names, made):
    """A plan of so many names, with pieces of those that were made."""
    names = "abcd"[:names]
    table = {name: [other for other in names if chance.random() < 0.4] for name in names}
    ends = [[name for name in names if chance.random() < 0.5] for _ in range(2)]
    return Plan({name: chance.choice(made) for name in names}, table, *ends)


class SmallPlans(unittest.TestCase):
    """What is returned, held against all lists of names."""

    @classmethod
    def setUpClass(cls):
        chance = random.Random(81)
        made = [Run(rows) for rows in (ASK, ASK, BOTH, {}, {"idle": []}, {"q": [("send", "z", "p")], "p": [("take", "z")]},
                                       SWAPPED, {"p": [("send", "b", "r")], "r": [("take", "b")], "s": []})]
        made += [Run(chance_taken(chance, 2 + k % 2, 2)) for k in range(4)]
        cls.told = [example(), Plan({}, {}, [], [])] + [chance_plan(chance, 1 + k % 4, made) for k in range(120)]

    def test_ways_within_a_number(self):
        for plan in self.told:
            expected = []
            for number in range(5):
                every = plain_ways(plan, number)
                expected = expected + every
                self.assertEqual(ways_within(plan, number), expected)
                self.assertEqual(many_ways(plan, number), len(every))
                for way in itertools.product(plan.ways(), repeat=min(number, 3)):
                    self.assertIs(is_way(plan, list(way)), list(way) in expected)

    def test_names_on_ways(self):
        for plan in self.told:
            many = len(plan.ways())
            # a name on a way is on one that comes to no name twice ahead of it, and none behind it
            every = [way for number in range(1, 2 * many) for way in plain_ways(plan, number)] if many < 4 else None
            if every is not None:
                self.assertEqual(on_ways(plan), sorted({name for way in every for name in way}))
                # there are ways as long as one likes exactly if there are some of more names than the plan has
                self.assertIs(endless(plan), bool(plain_ways(plan, many + 1) or plain_ways(plan, 2 * many)
                                                  or any(len(way) > many for way in every)))

    def test_many_ways_by_steps(self):
        for plan in self.told:
            table = plan.ways()
            many = {name: int(name in plan.firsts()) for name in table}
            for number in range(1, 61):
                if number in (1, 2, 5, 9, 30, 59, 60):
                    self.assertEqual(many_ways(plan, number), sum(many[name] for name in plan.lasts()))
                many = {name: sum(many[one] for one in table if name in table[one]) for name in table}

    def test_runs_of_ways(self):
        for plan in self.told:
            for way in ways_within(plan, 4)[:30]:
                run = run_of_way(plan, way)
                self.assertEqual([run, named(run)], [plain_run(plan, way), run])

    def test_of_which_kinds_the_runs_of_all_ways_are(self):
        bad = 0
        for plan in self.told[:70]:
            every = [(way, plain_run(plan, way)) for way in ways_within(plan, 3)]
            pieces_on = [plan.pieces()[name] for name in on_ways(plan)]
            for kind in KINDS:
                # exactly if each piece on a way is
                expected = all(is_of(piece, kind) for piece in pieces_on)
                self.assertIs(is_plan_of(plan, kind), expected)
                first = next((way for way, run in every if not is_of(run, kind)), None)
                way = bad_way(plan, kind)
                self.assertIs(way is None, expected)
                if first is not None or way is None:
                    self.assertEqual(way, first)
                else:
                    self.assertGreater(len(way), 3)
                bad += way is not None
            found = [kind for kind in KINDS if is_plan_of(plan, kind)]
            self.assertEqual(least_kind_of(plan), found[-1] if found else None)
        self.assertGreater(bad, 20)

    def test_the_unlike_runs_of_ways(self):
        for plan in self.told:
            expected = []
            for way in ways_within(plan, 3):
                run = busy(plain_run(plan, way))
                if run not in expected:
                    expected.append(run)
            self.assertEqual(runs_within(plan, 3), expected)
            for number in range(3):
                some = runs_within(plan, number)
                self.assertEqual(some, expected[:len(some)])

    def test_pieces_that_are_alike(self):
        for plan in self.told:
            told = plan.pieces()
            self.assertEqual(alike_pieces(plan), [pair for pair in itertools.combinations(told, 2)
                                                  if are_alike(told[pair[0]], told[pair[1]])])


class Edges(unittest.TestCase):
    def test_a_plan_without_pieces(self):
        plan = Plan({}, {}, [], [])
        self.assertEqual([plan.pieces(), plan.ways(), plan.firsts(), plan.lasts()], [{}, {}, [], []])
        self.assertEqual([on_ways(plan), ways_within(plan, 4), many_ways(plan, 0), many_ways(plan, 60), endless(plan)],
                         [[], [], 0, 0, False])
        self.assertEqual([runs_within(plan, 4), alike_pieces(plan), least_kind_of(plan), is_way(plan, [])],
                         [[], [], "hand", False])
        for kind in KINDS:
            self.assertEqual([is_plan_of(plan, kind), bad_way(plan, kind)], [True, None])

    def test_plans_without_ways(self):
        for plan in (Plan(pieces(), ways(), [], ["ask"]), Plan(pieces(), ways(), ["ask"], []),
                     Plan(pieces(), ways(), ["both"], ["ask"]), Plan({"a": Run(SWAPPED)}, {"a": ["a"]}, [], [])):
            self.assertEqual([on_ways(plan), ways_within(plan, 4), many_ways(plan, 1), endless(plan)],
                             [[], [], 0, False])
            self.assertEqual([least_kind_of(plan), bad_way(plan, "hand"), is_plan_of(plan, "hand"),
                              runs_within(plan, 4)], ["hand", None, True, []])

    def test_ways_of_no_names(self):
        self.assertEqual([ways_within(example(), 0), many_ways(example(), 0), runs_within(example(), 0)], [[], 0, []])
        self.assertIs(is_way(example(), []), False)

    def test_pieces_without_letters(self):
        plan = Plan({"a": Run({}), "b": Run({"p": [], "q": []})}, {"a": ["a", "b"], "b": ["a"]}, ["a"], ["a", "b"])
        self.assertEqual([run_of_way(plan, ["a"]), run_of_way(plan, ["a", "b"] * 13)], [Run({}), Run({"p": [], "q": []})])
        self.assertEqual([runs_within(plan, 4), least_kind_of(plan), alike_pieces(plan), endless(plan)],
                         [[Run({})], "hand", [("a", "b")], True])

    def test_pieces_on_no_way_mean_nothing(self):
        plan = Plan({"bad": Run(SWAPPED), "good": Run(ASK)}, {"bad": ["good"], "good": []}, ["good"], ["bad", "good"])
        self.assertEqual([on_ways(plan), least_kind_of(plan), is_plan_of(plan, "hand"), bad_way(plan, "lanes")],
                         [["good"], "hand", True, None])
        # a loop that comes to no end
        plan = Plan({"a": Run(ASK), "b": Run(LATE)}, {"a": ["b"], "b": ["b"]}, ["a"], ["a"])
        self.assertEqual([on_ways(plan), endless(plan), ways_within(plan, 4), least_kind_of(plan)],
                         [["a"], False, [["a"]], "hand"])

    def test_loops(self):
        plan = Plan({"a": Run(ASK)}, {"a": ["a"]}, ["a"], ["a"])
        self.assertEqual([endless(plan), many_ways(plan, 60), ways_within(plan, 3)],
                         [True, 1, [["a"], ["a", "a"], ["a", "a", "a"]]])
        plan = Plan({name: Run(ASK) for name in "abcdef"}, {name: list("abcdef") for name in "abcdef"}, list("abcdef"),
                    list("abcdef"))
        self.assertEqual([many_ways(plan, 60), many_ways(plan, 1), many_ways(plan, 0)], [6 ** 60, 6, 0])
        self.assertEqual(len(runs_within(plan, 4)), 4)

    def test_numbers_far_beyond_all_ways(self):
        plan = Plan({"a": Run(ASK), "b": Run(BOTH)}, {"a": ["b"], "b": []}, ["a", "b"], ["a", "b"])
        self.assertEqual([many_ways(plan, number) for number in (1, 2, 3, 60, 10 ** 29)], [2, 1, 0, 0, 0])
        self.assertEqual([ways_within(plan, 10 ** 29), len(runs_within(plan, 10 ** 29))],
                         [[["a"], ["b"], ["a", "b"]], 3])

    def test_a_bad_way_of_many_names(self):
        # z is not of "lanes" and can be reached only over all others
        names = list("abcdefgh")
        table = {name: [other] for name, other in zip(names, names[1:])}
        plan = Plan({**{name: Run(ASK) for name in names}, "h": Run(SWAPPED)}, {**table, "h": []}, ["a"], ["h"])
        self.assertEqual([bad_way(plan, "lanes"), least_kind_of(plan), many_ways(plan, 8)], [names, None, 1])
        # a is a last one, but only behind z
        plan = Plan({"a": Run(ASK), "b": Run(BOTH), "z": Run(SWAPPED)}, {"a": ["b"], "b": ["z"], "z": ["a"]},
                    ["a"], ["a"])
        self.assertEqual([bad_way(plan, "lanes"), bad_way(plan, "hand")], [list("abza")] * 2)
        # the shortest one, of these the least, whichever pieces on it are bad
        plan = Plan({"a": Run(ASK), "b": Run(CROSSED), "c": Run(CROSSED), "d": Run(ASK)},
                    {"a": ["c", "d"], "b": ["a"], "c": ["d"], "d": ["b"]}, ["a", "b"], ["a", "d"])
        self.assertEqual(bad_way(plan, "hand"), ["b", "a"])
        plan = Plan({"a": Run(ASK), "b": Run(CROSSED), "c": Run(CROSSED), "d": Run(ASK)},
                    {"a": ["b", "c"], "b": ["d"], "c": ["d"], "d": []}, ["a"], ["d"])
        self.assertEqual(bad_way(plan, "hand"), ["a", "b", "d"])

    def test_kinds_of_plans(self):
        for run, kind in ((Run(EXAMPLE), "hand"), (crown(2), "belt"), (Run(KNOT), "outbox"), (Run(CROSSING), "causal"),
                          (detour(2), "lanes"), (crossing(2), "causal"), (Run(SWAPPED), None)):
            plan = Plan({"a": Run(ASK), "b": run}, {"a": ["a", "b"], "b": []}, ["a"], ["a", "b"])
            self.assertEqual([least_kind_of(plan), is_plan_of(plan, "hand")], [kind, kind == "hand"])
            self.assertEqual(bad_way(plan, "hand"), None if kind == "hand" else ["a", "b"])
            self.assertEqual([is_plan_of(plan, some) for some in KINDS],
                             [kind is not None and KINDS.index(some) <= KINDS.index(kind) for some in KINDS])

    def test_idle_parties_of_pieces_stay(self):
        plan = Plan({"a": Run({**ASK, "idle": []}), "b": Run({"other": []})}, {"a": ["b"], "b": []}, ["a"], ["a", "b"])
        self.assertEqual(run_of_way(plan, ["a", "b"]).parties(), ["idle", "other", "p", "q"])
        self.assertEqual([run.parties() for run in runs_within(plan, 2)], [["p", "q"]])

    def test_names_of_letters_go_by_senders(self):
        plan = Plan({"a": Run({"q": [("send", "z", "p")], "p": [("take", "z")]}), "b": Run(BOTH)},
                    {"a": ["b"], "b": ["a"]}, ["a", "b"], ["a", "b"])
        self.assertEqual(run_of_way(plan, ["a", "b", "a"]).rows(), {
            "p": [("take", "b"), ("send", "a", "q"), ("take", "c"), ("take", "d")],
            "q": [("send", "b", "p"), ("send", "c", "p"), ("take", "a"), ("send", "d", "p")]})

    def test_runs_may_be_alike_though_ways_are_not(self):
        plan = Plan({"a": Run(ASK), "b": called(Run(ASK), {"x": "y"})}, {"a": ["a", "b"], "b": ["a"]}, ["a", "b"],
                    ["a", "b"])
        self.assertEqual([len(ways_within(plan, 3)), [len(run.letters()) for run in runs_within(plan, 3)]],
                         [2 + 3 + 5, [1, 2, 3]])
        self.assertEqual(runs_within(plan, 3), [busy(named(chain_of(many))) for many in (1, 2, 3)])


def chain_of(many):
    """A run of so many letters from p to q, each taken at once."""
    return Run({"p": [("send", "abc"[k], "q") for k in range(many)], "q": [("take", "abc"[k]) for k in range(many)]})


if __name__ == "__main__":
    unittest.main()
