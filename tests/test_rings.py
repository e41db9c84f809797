"""[34] to [40]: moments, arrows and where they lead, rings, reasons, and the runs that are made to bar a kind."""

import itertools
import random
import unittest

from postways.errors import InvalidEvent, InvalidKind, InvalidMake, InvalidRun
from postways.kinds import KINDS, is_of, kinds_kept, kinds_of, least_kind
from postways.rings import (are_reasons, arrows_of, crossing, crown, detour, goes_to, is_ring_for, least_ring, moments,
                            reasons_for, ring_for)
from postways.runs import Run, kept
from tests.calls import Call, CallCase, EachCall, call_of, odd_but
from tests.counts import Counted, closed
from tests.samples import (CROSSED, CROSSING, HELD, KNOT, LATE, LOST, MIXED, SWAPPED, all_parts,
                           all_runs_of_two, chance_rows, chance_taken, example, small_rows)

XS, XT, YS, YT, ZS, ZT = [(letter, word) for letter in "xyz" for word in ("send", "take")]
XL, YL = ("x", "lie"), ("y", "lie")
RUN = ("run", example, InvalidRun)
LATE_RUN = ("run", lambda: Run(LATE), InvalidRun)
KIND = ("kind", lambda: "causal", InvalidKind)
RING = [ZT, YT]
# y is sent ahead of z, so its take would be ahead of that of z, but it stands behind it
REASONS = [(YS, ZS), (YT, ZT), (ZT, YT), (YT, YT)]
CALLS = [
    Call(moments, RUN),
    Call(arrows_of, RUN, KIND),
    Call(goes_to, RUN, KIND, ("moment", lambda: ("x", "send"), InvalidEvent)),
    Call(ring_for, LATE_RUN, KIND),
    Call(is_ring_for, LATE_RUN, KIND, ("value", lambda: list(RING), None)),
    Call(least_ring, LATE_RUN, KIND),
    Call(reasons_for, LATE_RUN),
    Call(are_reasons, LATE_RUN, ("value", lambda: list(REASONS), None)),
    Call(crown, ("many", lambda: 3, InvalidMake)),
    Call(detour, ("many", lambda: 3, InvalidMake)),
    Call(crossing, ("many", lambda: 3, InvalidMake)),
]
GOOD = {InvalidKind: [], InvalidEvent: [XS, XT], InvalidMake: [2, 7]}
MAKES = [crown, detour, crossing]


class Examples(unittest.TestCase):
    def test_the_block_of_the_document(self):
        run = Run({"a": [("send", "x", "b"), ("send", "y", "c")], "b": [("take", "x"), ("send", "z", "c")],
                   "c": [("take", "z"), ("take", "y")]})
        late = Run({"a": [("send", "y", "c"), ("send", "x", "b")], "b": [("take", "x"), ("send", "z", "c")],
                    "c": [("take", "z"), ("take", "y")]})
        held = Run({"a": [("send", "x", "b"), ("send", "y", "c")], "b": [], "c": [("take", "y")]})
        self.assertEqual(
            [arrows_of(run, "box"), arrows_of(late, "causal"), ring_for(run, "box"),
             is_ring_for(late, "causal", [("z", "take"), ("y", "take")])],
            [[(('z', 'send'), ('y', 'send'))], [(('y', 'take'), ('z', 'take'))], None, True])
        self.assertEqual(
            [moments(held), arrows_of(held, "belt"), least_ring(held, "outbox"), goes_to(held, "box", ("y", "take"))],
            [[('x', 'lie'), ('x', 'send'), ('y', 'send'), ('y', 'take')],
             [(('x', 'lie'), ('y', 'take')), (('y', 'send'), ('x', 'send'))], 2, [('x', 'lie')]])
        knot = Run({"a": [("take", "p"), ("send", "q", "b")],
                    "b": [("send", "r", "c"), ("send", "p", "a"), ("take", "q"), ("take", "s")],
                    "c": [("send", "s", "b"), ("take", "r")]})
        self.assertEqual(
            [least_kind(knot), reasons_for(run), len(reasons_for(knot)) > 4,
             are_reasons(knot, [(("r", "send"), ("p", "send")), (("r", "take"), ("r", "take"))])],
            ['outbox', None, True, False])
        self.assertEqual(
            [kinds_of(crown(3)), least_ring(crown(3), "hand"), kinds_of(detour(2)), kinds_of(crossing(2)),
             least_ring(crossing(2), "box"), crossing(2).rows()["sa"]],
            [['lanes', 'causal', 'box', 'outbox', 'belt'], 6, ['lanes'], ['lanes', 'causal'], 4,
             [('send', 'ma', 'ra'), ('send', 'lb', 'rb')]])


class Wrong(EachCall, CallCase):
    calls, good = CALLS, GOOD

    def test_nothing_is_shared_for_any_kind(self):
        for kind in KINDS:
            for run in (LATE, HELD, KNOT, SWAPPED):
                for function in (arrows_of, ring_for):
                    self.check_shares_nothing(Call(function, ("run", lambda: Run(run), InvalidRun),
                                                   ("kind", lambda: kind, InvalidKind)))
        self.check_shares_nothing(Call(reasons_for, ("run", lambda: Run(KNOT), InvalidRun)))

    def test_texts_that_are_no_kinds(self):
        for call in CALLS:
            if InvalidKind in call.errors:
                wrongs = ["Hand", "hand ", "lane", "", ("hand",), ["hand"], True, KINDS, InvalidKind()]
                self.check_wrong(call, 1, wrongs)

    def test_moments_that_are_none(self):
        wrongs = [("x", "lie"), ("x", "sent"), ("x", "take "), ("q", "send"), ["x", "send"], ("x",), "x", ("a", "send"),
                  ("x", "send", "b"), (XS,), ("x", True), {"x": "send"}, ("x", Run({})), ("lie", "x"), [XS]]
        self.check_wrong(call_of(CALLS, goes_to), 2, wrongs)
        # moments of letters that are taken, and of those that lie
        for kind in KINDS:
            call = Call(goes_to, ("run", lambda: Run(HELD), InvalidRun), ("kind", lambda: kind, InvalidKind),
                        ("moment", lambda: XL, InvalidEvent))
            self.check_wrong(call, 2, [YL, XT, ("x", "lies"), ["x", "lie"]])
            self.assertIsInstance(goes_to(Run(HELD), kind, XL), list)

    def test_lists_that_are_no_rings(self):
        wrongs = [tuple(RING), [ZT], [YT], [], [ZT, YT, ZT], [ZT, YT, ZT, YT], [ZT, ZT], [ZS, YS], [XS, XT],
                  [["z", "take"], YT], [ZT, "y"], [ZT, None], [ZT, True], [[ZT, YT]], {ZT: YT}, [ZT, ("y", "lie")],
                  [ZT, YT, ("q", "send")], [ZT, ("y", "take", "c")], [XS, ZT, YT], [Run({}), YT], "ring", [YS, ZT]]
        self.check_judge(call_of(CALLS, is_ring_for), wrongs)
        for ring in ([YT, ZT], [ZS, ZT, YT], [YT, ZT, YT]):
            self.assertIs(is_ring_for(Run(LATE), "causal", ring), ring == [YT, ZT])

    def test_lists_that_are_no_reasons(self):
        begun, last = REASONS[:-1], REASONS[-1]
        wrongs = [tuple(REASONS), begun, REASONS[1:], REASONS[::-1], [], [REASONS[0]], [[YT, YT]], [(YT, YT)],
                  [REASONS[0], *REASONS[2:]], [*REASONS[:2], last], [*REASONS, (YS, ZS)],
                  [list(pair) for pair in REASONS], [*begun, (YT, YT, YT)], [*begun, (YT,)], [*begun, None],
                  [*begun, True], [*begun, (["y", "take"], YT)], [*begun, (YT, ["y", "take"])],
                  [*begun, (YT, YL)],
                  {pair: 1 for pair in REASONS}, [(("q", "send"), ZS), *REASONS], [*REASONS, (ZT, ("q", "take"))],
                  [Run({}), *REASONS], "reasons", [REASONS]]
        self.check_judge(call_of(CALLS, are_reasons), wrongs)

    def test_judges_return_false_for_odd_objects(self):
        for function in (is_ring_for, are_reasons):
            self.check_judge(call_of(CALLS, function), odd_but())
        for value in odd_but():
            self.assertIs(is_ring_for(example(), "lanes", value), False)
            self.assertIs(are_reasons(example(), value), False)

    def test_numbers_for_no_make(self):
        for make in MAKES:
            wrongs = [1, 0, -1, -2, 26, 27, 10 ** 29, -10 ** 29, True, False, None, "2", [2], (2,), {2: 2}, "abc",
                      Run({}), InvalidMake(2)]
            self.check_wrong(call_of(CALLS, make), 0, wrongs)


class SmallRuns(unittest.TestCase):
    """What is returned, held against plain counts by all lines and by all lists of moments."""

    @classmethod
    def setUpClass(cls):
        chance = random.Random(31)
        more = [KNOT, CROSSING, *[chance_rows(chance, 2 + k % 4, 4) for k in range(25)]]
        rows = small_rows() + [MIXED] + [run.rows() for run in all_runs_of_two()[::3]]
        cls.small = [Counted(some) for some in rows]
        cls.told = cls.small + [Counted(some) for some in more]

    def test_moments(self):
        for counted in self.told:
            self.assertEqual(moments(counted.run), counted.moments())

    def test_arrows_and_where_they_lead(self):
        for counted in self.told:
            for kind in KINDS:
                self.assertEqual(arrows_of(counted.run, kind), counted.arrows(kind))
                goes = closed(counted.steps(kind))
                for moment in counted.moments():
                    self.assertEqual(goes_to(counted.run, kind, moment),
                                     sorted(other for one, other in goes if one == moment))

    def test_where_a_run_is_of_a_kind_events_go_to_what_is_always_behind(self):
        told = 0
        for counted in self.told:
            for kind in KINDS[:-1]:
                if counted.serving[kind]:
                    places = [{event: k for k, event in enumerate(line)} for line in counted.serving[kind]]
                    for one in counted.events if len(places) < 500 else []:
                        told += 1
                        behind = [other for other in counted.events
                                  if other != one and all(place[one] < place[other] for place in places)]
                        found = goes_to(counted.run, kind, one)
                        self.assertEqual([moment for moment in found if moment[1] != "lie"], behind)
        self.assertGreater(told, 1000)

    def test_a_run_is_of_a_kind_exactly_if_there_is_no_ring(self):
        for counted in self.told:
            for kind in KINDS:
                ring = ring_for(counted.run, kind)
                if counted.serving[kind]:
                    self.assertIsNone(ring)
                    self.assertIsNone(least_ring(counted.run, kind))
                else:
                    self.assertTrue(counted.is_ring(kind, ring, counted.steps(kind)))
                    self.assertEqual(len(ring), len(set(ring)))
                    self.assertIs(is_ring_for(counted.run, kind, ring), True)

    def test_the_shortest_ring(self):
        for counted in self.small:
            for kind in KINDS:
                ring = next(counted.rings(kind), None)
                self.assertEqual(least_ring(counted.run, kind), None if ring is None else len(ring))

    def test_the_shortest_rings_of_four_letters(self):
        for rows in (KNOT, CROSSING):
            counted = Counted(rows)
            for kind in KINDS:
                if not counted.serving[kind]:
                    self.assertEqual(least_ring(counted.run, kind), len(next(counted.rings(kind))))

    def test_all_lists_of_moments_of_two_letters(self):
        told = {True: 0, False: 0}
        for counted in self.small:
            if len(counted.moments()) == 4:
                for kind in KINDS[::2] if len(counted.lines) > 2 else KINDS[1::2]:
                    steps = counted.steps(kind)
                    for many in range(5):
                        for ring in itertools.product(counted.moments(), repeat=many):
                            right = len(set(ring)) == many and counted.is_ring(kind, list(ring), steps)
                            told[right] += 1
                            self.assertIs(is_ring_for(counted.run, kind, list(ring)), right)
        self.assertGreater(told[True], 100)

    def test_a_run_is_of_the_belt_exactly_if_there_are_no_reasons(self):
        for counted in self.told:
            reasons = reasons_for(counted.run)
            if counted.serving["belt"]:
                self.assertIsNone(reasons)
            else:
                self.assertTrue(counted.are_reasons(reasons))
                self.assertIs(are_reasons(counted.run, reasons), True)

    def test_reasons_with_less_or_in_another_order(self):
        chance = random.Random(8)
        told = {True: 0, False: 0}
        for counted in self.told:
            reasons = reasons_for(counted.run)
            for k in range(len(reasons or [])):
                other = list(reasons)
                chance.shuffle(other)
                for some in (reasons[:k] + reasons[k + 1:], reasons[:k], reasons[k:], [reasons[k], *reasons], other,
                             reasons[:k] + [reasons[k][::-1]] + reasons[k:]):
                    right = counted.are_reasons(some)
                    told[right] += 1
                    self.assertIs(are_reasons(counted.run, some), right)
        self.assertGreater(min(told.values()), 50)

    def test_all_short_lists_of_tuples(self):
        runs = [Counted(rows) for rows in (SWAPPED, LOST, HELD, CROSSED, {"a": [("send", "x", "b")], "b": []})]
        for counted in runs:
            pairs = list(itertools.product(counted.moments(), repeat=2))
            for many in (1, 2, 3):
                for some in itertools.product(pairs, repeat=many):
                    if many < 3 or some[-1][0] == some[-1][1]:
                        self.assertIs(are_reasons(counted.run, list(some)), counted.are_reasons(some))


class Edges(unittest.TestCase):
    def test_runs_without_letters(self):
        for run in (Run({}), Run({"a": [], "b": []})):
            self.assertEqual([moments(run), reasons_for(run), are_reasons(run, [])], [[], None, False])
            for kind in KINDS:
                self.assertEqual([arrows_of(run, kind), ring_for(run, kind), least_ring(run, kind)], [[], None, None])
                self.assertIs(is_ring_for(run, kind, []), False)
                self.assertRaises(InvalidEvent, goes_to, run, kind, XS)

    def test_idle_parties_mean_nothing(self):
        for rows in (LATE, HELD, KNOT, SWAPPED):
            one, other = Run(rows), Run({**rows, "idle": []})
            self.assertEqual([moments(one), reasons_for(one)], [moments(other), reasons_for(other)])
            for kind in KINDS:
                self.assertEqual(arrows_of(one, kind), arrows_of(other, kind))
                self.assertEqual(least_ring(one, kind), least_ring(other, kind))

    def test_letters_that_lie(self):
        run = Run(LOST)
        self.assertEqual(moments(run), [XL, XS, YS, YT])
        # from the end of the letter that lies to the take of the other one
        for kind in ("lanes", "causal", "outbox"):
            self.assertEqual(arrows_of(run, kind), [(XL, YT)])
            self.assertEqual([goes_to(run, kind, YT), goes_to(run, kind, XL)], [[XL, YT], [XL, YT]])
            self.assertIs(is_ring_for(run, kind, [XL, YT]), True)
        self.assertEqual(arrows_of(run, "box"), [(YS, XS)])
        self.assertEqual(arrows_of(run, "belt"), [(XL, YT), (YS, XS)])
        self.assertEqual(arrows_of(run, "hand"), [(XL, XS), (YT, YS)])
        self.assertEqual([least_ring(run, kind) for kind in KINDS], [2] * 6)
        self.assertIs(is_ring_for(run, "hand", [XL, XS]), True)
        self.assertIs(is_ring_for(run, "hand", [XS, XL]), True)
        self.assertIs(is_ring_for(run, "hand", [YS, YT]), False)

    def test_no_moment_is_behind_the_end_of_a_letter_that_lies(self):
        run = Run({"a": [("send", "x", "b"), ("send", "y", "b")], "b": []})
        for kind in KINDS[:-1]:
            self.assertEqual([goes_to(run, kind, XL), goes_to(run, kind, YS)], [[], [XL, YL]])
            self.assertEqual(arrows_of(run, kind), [])
        self.assertEqual(goes_to(run, "hand", XL), [XL, XS, YL, YS])

    def test_a_letter_alone_makes_no_ring_from_hand_to_hand(self):
        run = Run({"a": [("send", "x", "b")], "b": [("take", "x")]})
        self.assertEqual([arrows_of(run, "hand"), goes_to(run, "hand", XS)], [[(XT, XS)], [XS, XT]])
        self.assertEqual([ring_for(run, "hand"), least_ring(run, "hand")], [None, None])
        self.assertIs(is_ring_for(run, "hand", [XS, XT]), False)

    def test_a_ring_from_hand_to_hand_has_two_letters(self):
        run = Run(CROSSED)
        self.assertEqual(least_ring(run, "hand"), 4)
        self.assertIs(is_ring_for(run, "hand", [XS, YT, YS, XT]), True)
        self.assertIs(is_ring_for(run, "hand", [XT, XS]), False)

    def test_arrows_also_where_one_is_ahead_anyway(self):
        run = Run({"a": [("send", "x", "b"), ("send", "y", "b")], "b": [("take", "x"), ("take", "y")]})
        for kind in ("lanes", "causal", "outbox"):
            self.assertEqual(arrows_of(run, kind), [(XT, YT)])
        self.assertEqual(arrows_of(run, "box"), [(XS, YS)])
        self.assertEqual(arrows_of(run, "belt"), [(XS, YS), (XT, YT)])

    def test_arrows_that_rest_on_one_another(self):
        # the send of p goes to that of r only over what follows from the ends of others
        run = Run({"a": [("send", "p", "c"), ("take", "q")], "b": [("send", "q", "a"), ("send", "r", "c")],
                   "c": [("take", "r"), ("take", "p")]})
        self.assertEqual(arrows_of(run, "belt"), Counted(run.rows()).arrows("belt"))
        self.assertIn((("q", "take"), ("p", "take")), arrows_of(run, "belt"))


class Makes(unittest.TestCase):
    def test_the_least_ones(self):
        self.assertEqual(crown(2).rows(), {"a": [("send", "a", "b"), ("take", "b")],
                                           "b": [("send", "b", "a"), ("take", "a")]})
        self.assertEqual(detour(2).rows(), {
            "a": [("send", "far", "c"), ("send", "a", "b")], "b": [("take", "a"), ("send", "b", "c")],
            "c": [("take", "b"), ("take", "far")]})
        self.assertEqual(crossing(2).rows(), {
            "ra": [("take", "la"), ("take", "ma")], "rb": [("take", "lb"), ("take", "mb")],
            "sa": [("send", "ma", "ra"), ("send", "lb", "rb")], "sb": [("send", "mb", "rb"), ("send", "la", "ra")]})

    def test_three(self):
        self.assertEqual(crown(3).rows(), {
            "a": [("send", "a", "b"), ("take", "c")], "b": [("send", "b", "c"), ("take", "a")],
            "c": [("send", "c", "a"), ("take", "b")]})
        self.assertEqual(detour(3).rows(), {
            "a": [("send", "far", "d"), ("send", "a", "b")], "b": [("take", "a"), ("send", "b", "c")],
            "c": [("take", "b"), ("send", "c", "d")], "d": [("take", "c"), ("take", "far")]})
        self.assertEqual(crossing(3).rows(), {
            "ra": [("take", "la"), ("take", "ma")], "rb": [("take", "lb"), ("take", "mb")],
            "rc": [("take", "lc"), ("take", "mc")], "sa": [("send", "ma", "ra"), ("send", "lb", "rb")],
            "sb": [("send", "mb", "rb"), ("send", "lc", "rc")], "sc": [("send", "mc", "rc"), ("send", "la", "ra")]})

    def test_the_greatest_ones(self):
        words = list("abcdefghijklmnopqrstuvwxyz")
        run = crown(25)
        self.assertEqual([run.parties(), run.letters()], [words[:25], words[:25]])
        self.assertEqual(run.rows()["y"], [("send", "y", "a"), ("take", "x")])
        self.assertEqual(run.rows()["a"], [("send", "a", "b"), ("take", "y")])
        run = detour(25)
        self.assertEqual([run.parties(), run.letters()], [words, sorted([*words[:25], "far"])])
        self.assertEqual(run.rows()["z"], [("take", "y"), ("take", "far")])
        self.assertEqual(run.rows()["a"], [("send", "far", "z"), ("send", "a", "b")])
        run = crossing(25)
        self.assertEqual(run.parties(), ["r" + word for word in words[:25]] + ["s" + word for word in words[:25]])
        self.assertEqual(run.rows()["sy"], [("send", "my", "ry"), ("send", "la", "ra")])
        self.assertEqual(run.rows()["ra"], [("take", "la"), ("take", "ma")])

    def test_which_kinds_they_bar(self):
        for many in (2, 3, 4):
            for make, left in ((crown, KINDS[:5]), (detour, KINDS[:1]), (crossing, KINDS[:2])):
                run = make(many)
                self.assertEqual(kinds_of(run), list(left))
                for letters in all_parts(run.letters())[:-1]:
                    self.assertIn(KINDS[len(left)], kinds_kept(run, letters))

    def test_no_more_letters_than_parties_have_to_be_looked_at(self):
        chance = random.Random(12)
        told = {True: 0, False: 0}
        for k in range(120):
            rows = chance_taken(chance, 2 + k % 3, 3 + k % 3)
            run = Run(rows)
            for kind in ("hand", "causal"):
                some = [letters for letters in all_parts(run.letters()) if len(letters) <= len(rows)]
                told[is_of(run, kind)] += 1
                self.assertIs(is_of(run, kind), all(is_of(kept(run, letters), kind) for letters in some))
        self.assertGreater(min(told.values()), 20)


if __name__ == "__main__":
    unittest.main()
