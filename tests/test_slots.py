"""[56] to [61]: lanes, how many letters lie in them at once, slots and which lines keep them, fewest lying letters."""

import itertools
import random
import unittest

from postways.errors import InvalidLane, InvalidLine, InvalidRun, InvalidSlots
from postways.kinds import is_of
from postways.lines import first_line, is_line, lying_along
from postways.primes import primes_of
from postways.rings import crown
from postways.runs import Run, lying
from postways.slots import (arrows_with, fewest_line, fewest_lying, goes_with, is_fewest_line, is_least_slots,
                            is_line_with, is_ring_with, lane_leasts, lanes_of, least_of_lane, least_slots, line_with,
                            lying_in, ring_with)
from tests.calls import Call, CallCase, EachCall, call_of, odd_but
from tests.counts import Counted
from tests.samples import (CROSSED, CROSSING, EXAMPLE, HELD, KNOT, LATE, LOST, MIXED, SWAPPED, TWO, all_runs_of_two,
                           chance_rows, chance_taken, small_rows)

PQ, QP = ("p", "q"), ("q", "p")
TIGHT, LOOSE = {PQ: 1, QP: 1}, {PQ: 1, QP: 2}
AS, BS, CS, DS, AT, BT, CT, DT = [(letter, word) for word in ("send", "take") for letter in "abcd"]
FIRST = [AS, BS, CS, DS, AT, BT, CT, DT]
KEEPING = [AS, CS, DS, AT, BS, BT, CT, DT]
RING = [AT, BS, CT, DS]
RUN = ("run", lambda: Run(TWO), InvalidRun)
LINE = ("line", lambda: list(FIRST), InvalidLine)
SLOTS = ("slots", lambda: dict(LOOSE), InvalidSlots)
CALLS = [
    Call(lanes_of, RUN),
    Call(lying_in, RUN, LINE),
    Call(goes_with, RUN, SLOTS),
    Call(line_with, RUN, SLOTS),
    Call(is_line_with, RUN, SLOTS, ("value", lambda: list(KEEPING), None)),
    Call(arrows_with, RUN, SLOTS),
    Call(ring_with, RUN, ("slots", lambda: dict(TIGHT), InvalidSlots)),
    Call(is_ring_with, RUN, ("slots", lambda: dict(TIGHT), InvalidSlots), ("value", lambda: list(RING), None)),
    Call(least_of_lane, RUN, ("lane", lambda: PQ, InvalidLane)),
    Call(lane_leasts, RUN),
    Call(least_slots, RUN),
    Call(is_least_slots, RUN, ("value", lambda: dict(LOOSE), None)),
    Call(fewest_lying, RUN),
    Call(fewest_line, RUN),
    Call(is_fewest_line, RUN, ("value", lambda: list(KEEPING), None)),
]
GOOD = {InvalidLine: [], InvalidSlots: [], InvalidLane: []}
NO_SLOTS = [
    {PQ: 1}, {QP: 2}, {}, {PQ: 1, QP: 2, ("p", "r"): 1}, {PQ: 1, ("p", "p"): 2}, {PQ: 0, QP: 2}, {PQ: 1, QP: 0},
    {PQ: -1, QP: 2}, {PQ: True, QP: 2}, {PQ: 1, QP: True}, {PQ: "1", QP: 2}, {PQ: None, QP: 2}, {PQ: [1], QP: 2},
    {PQ: (1,), QP: 2}, {("p", "q", "q"): 1, QP: 2}, {"pq": 1, "qp": 2}, {PQ: 1, ("q", "p "): 2}, {PQ: 1, ("Q", "p"): 2},
    [(PQ, 1), (QP, 2)], ((PQ, 1), (QP, 2)), [1, 2], (1, 2), {PQ: {PQ: 1}, QP: 2}, {PQ: Run({}), QP: 2},
    {PQ: False, QP: False}, {(PQ,): 1, QP: 2}, Run(TWO), {PQ: InvalidSlots(1), QP: 1},
]
NO_LINES = [tuple(FIRST), FIRST[:-1], FIRST[::-1], [], [*FIRST, FIRST[0]], [*FIRST[:-1], ("d", "lie")],
            [[*event] for event in FIRST], [*FIRST[:-1], None], [FIRST], [*FIRST[:-1], ("d", "take ")],
            {event: 1 for event in FIRST}, [("x", "send"), *FIRST[1:]], [BS, AS, *FIRST[2:]], [*FIRST[:-1], True]]


class Examples(unittest.TestCase):
    def test_the_block_of_the_document(self):
        two = Run({"p": [("send", "a", "q"), ("send", "b", "q"), ("take", "c"), ("take", "d")],
                   "q": [("send", "c", "p"), ("send", "d", "p"), ("take", "a"), ("take", "b")]})
        self.assertEqual(
            [lanes_of(two), lane_leasts(two), least_slots(two), fewest_lying(two)],
            [[('p', 'q'), ('q', 'p')], {('p', 'q'): 1, ('q', 'p'): 1},
             [{('p', 'q'): 1, ('q', 'p'): 2}, {('p', 'q'): 2, ('q', 'p'): 1}], 3])
        tight = {("p", "q"): 1, ("q", "p"): 1}
        self.assertEqual(
            [arrows_with(two, tight), goes_with(two, tight), len(ring_with(two, tight)) > 1,
             ring_with(two, {("p", "q"): 2, ("q", "p"): 1}), least_of_lane(two, ("p", "q"))],
            [[(('a', 'take'), ('b', 'send')), (('c', 'take'), ('d', 'send'))], False, True, None, 1])
        held = Run({"p": [("send", "a", "q"), ("send", "b", "q")], "q": [("take", "b")]})
        self.assertEqual([arrows_with(held, {("p", "q"): 1}), goes_with(held, {("p", "q"): 1}), lane_leasts(held)],
                         [[(('b', 'take'), ('b', 'send'))], False, {('p', 'q'): 2}])


class Wrong(EachCall, CallCase):
    calls, good = CALLS, GOOD

    def test_objects_that_are_no_slots(self):
        for function in (goes_with, line_with, is_line_with, arrows_with, ring_with, is_ring_with):
            self.check_wrong(call_of(CALLS, function), 1, NO_SLOTS)
        self.check_judge(call_of(CALLS, is_least_slots), NO_SLOTS)
        self.check_judge(call_of(CALLS, is_least_slots), odd_but())
        # nothing but {} are slots of a run without lanes
        empty = [Call(goes_with, ("run", lambda: Run({"a": []}), InvalidRun), ("slots", dict, InvalidSlots))]
        self.check_odd_objects(empty, {InvalidSlots: [{}]})
        self.check_judge(Call(is_least_slots, ("run", lambda: Run({}), InvalidRun),
                              ("value", dict, None)), odd_but({}))

    def test_tuples_that_are_no_lanes(self):
        wrongs = [["p", "q"], ("p", "p"), ("p", "r"), ("p",), ("p", "q", "a"), ("p ", "q"), ("P", "q"), "pq", "p",
                  (PQ,), {"p": "q"}, ("p", None), (True, "q"), ("p", Run({})), [PQ], ("a", "b")]
        self.check_wrong(call_of(CALLS, least_of_lane), 1, wrongs)
        # the lane the other way round is none if nothing is sent in it
        one_way = Call(least_of_lane, ("run", lambda: Run(SWAPPED), InvalidRun), ("lane", lambda: ("a", "b"), InvalidLane))
        self.check_wrong(one_way, 1, [("b", "a"), ("a", "a"), ("a", "c")])

    def test_lists_that_are_no_lines(self):
        self.check_wrong(call_of(CALLS, lying_in), 1, NO_LINES)
        self.check_judge(call_of(CALLS, is_line_with), [*NO_LINES, FIRST])
        self.check_judge(call_of(CALLS, is_fewest_line), [*NO_LINES, FIRST])
        for function in (is_line_with, is_fewest_line):
            self.check_judge(call_of(CALLS, function), odd_but())
        self.check_judge(Call(is_fewest_line, ("run", lambda: Run({}), InvalidRun), ("value", list, None)), odd_but([]))

    def test_lists_that_are_no_rings(self):
        wrongs = [tuple(RING), RING[::-1], RING[:2], RING[:1], [], [*RING, RING[0]], RING * 2, [AT, AT], [AS, AT],
                  [[*moment] for moment in RING], [*RING[:3], None], [*RING[:3], True], [*RING[:3], ("d", "lie")],
                  [*RING[:3], ("z", "send")], {moment: 1 for moment in RING}, [RING], "ring", Run({}), [AT, CS, DS]]
        self.check_judge(call_of(CALLS, is_ring_with), wrongs)
        self.check_judge(call_of(CALLS, is_ring_with), odd_but())
        for ring in (RING[k:] + RING[:k] for k in range(4)):
            self.assertIs(is_ring_with(Run(TWO), TIGHT, ring), True)
            self.assertIs(is_ring_with(Run(TWO), LOOSE, ring), False)

    def test_keys_ascend_and_their_order_means_nothing(self):
        turned = {QP: 2, PQ: 1}
        for function in (goes_with, line_with, arrows_with, ring_with):
            self.assertEqual(function(Run(TWO), turned), function(Run(TWO), LOOSE))
        self.assertIs(is_least_slots(Run(TWO), turned), True)
        self.assertIs(is_line_with(Run(TWO), turned, KEEPING), True)
        for rows in (TWO, MIXED, KNOT, CROSSING, EXAMPLE):
            run = Run(rows)
            for told in (lying_in(run, first_line(run)), lane_leasts(run), *least_slots(run)):
                self.assertEqual(list(told), sorted(told))
                self.assertEqual(list(told), lanes_of(run))


class Held:
    """What slots of a run are, by the words of the document and by all its lines."""

    def __init__(self, rows):
        self.counted = Counted(rows)
        self.run = self.counted.run
        self.lanes = sorted(set(self.counted.ways.values()))
        self.most = [self.lying(line) for line in self.counted.lines]
        self.lane_letters = {lane: [letter for letter, way in self.counted.ways.items() if way == lane]
                             for lane in self.lanes}

    def lying(self, line):
        """The greatest numbers of letters that lie in each lane at once along a line."""
        most = {}
        for lane in self.lanes:
            numbers = [sum(1 if word == "send" else -1 for letter, word in line[:k + 1]
                           if self.counted.ways[letter] == lane) for k in range(len(line))]
            most[lane] = max(numbers)
        return most

    def keeping(self, slots):
        """The lines that keep slots."""
        return [line for line, most in zip(self.counted.lines, self.most)
                if all(most[lane] <= slots[lane] for lane in self.lanes)]

    def all_slots(self):
        """All slots with at most one more than the letters of each lane."""
        ranges = [range(1, len(self.lane_letters[lane]) + 2) for lane in self.lanes]
        return [dict(zip(self.lanes, counts)) for counts in itertools.product(*ranges)]

    def least(self):
        """The least slots, in their order."""
        held = [slots for slots in self.all_slots() if self.keeping(slots)]
        return [slots for slots in held if not any(other != slots and within(other, slots) for other in held)]

    def arrows(self, slots):
        """The ascending list of the arrows of slots."""
        rows, found = self.run.rows(), []
        for lane in self.lanes:
            sends = [deed[1] for deed in rows[lane[0]] if deed[0] == "send" and deed[2] == lane[1]]
            ends = [(deed[1], "take") for deed in rows[lane[1]] if deed[0] == "take" and deed[1] in sends]
            ends += [(letter, "lie") for letter in sends if letter not in self.counted.taken]
            for k, end in enumerate(ends):
                if k + slots[lane] < len(sends):
                    found.append((end, (sends[k + slots[lane]], "send")))
        return sorted(found)

    def is_ring(self, slots, ring):
        """Whether a list of moments is a ring."""
        steps = self.counted.all_ahead() | set(self.arrows(slots))
        if len(ring) < 2 or len(set(ring)) != len(ring):
            return False
        return all((one, other) in steps for one, other in zip(ring, ring[1:] + ring[:1]))


def within(one, other):
    """Whether slots are nowhere more than others."""
    return all(one[lane] <= other[lane] for lane in one)


class SmallRuns(unittest.TestCase):
    """What is returned, held against a plain count by all lines."""

    @classmethod
    def setUpClass(cls):
        chance = random.Random(56)
        rows = [*small_rows(), MIXED, KNOT, CROSSING, TWO, LATE, HELD]
        rows += [chance_rows(chance, 2 + k % 2, 4) for k in range(40)]
        rows += [run.rows() for run in all_runs_of_two()][::3]
        cls.told = [held for held in map(Held, rows) if len(held.counted.lines) < 1500]

    def test_lanes_and_what_lies_in_them(self):
        for held in self.told:
            self.assertEqual(lanes_of(held.run), held.lanes)
            for line, most in list(zip(held.counted.lines, held.most))[:40]:
                self.assertEqual(lying_in(held.run, line), most)

    def test_which_lines_keep_slots(self):
        seen = set()
        for held in self.told:
            for slots in held.all_slots():
                keeping = held.keeping(slots)
                line = line_with(held.run, slots)
                self.assertIs(goes_with(held.run, slots), bool(keeping))
                self.assertTrue(line in keeping if keeping else line is None)
                for line in held.counted.lines[:12]:
                    self.assertIs(is_line_with(held.run, slots, line), line in keeping)
                seen.add(bool(keeping))
        self.assertEqual(seen, {True, False})

    def test_arrows_and_rings(self):
        # some line keeps slots exactly if there is no ring
        for held in self.told:
            for slots in held.all_slots():
                self.assertEqual(arrows_with(held.run, slots), held.arrows(slots))
                ring = ring_with(held.run, slots)
                if held.keeping(slots):
                    self.assertIsNone(ring)
                else:
                    self.assertTrue(held.is_ring(slots, ring), (ring, slots))
                    self.assertIs(is_ring_with(held.run, slots, ring), True)

    def test_all_lists_of_moments(self):
        many = 0
        for held in self.told:
            moments = held.counted.moments()
            if len(moments) > 4 or not held.lanes:
                continue
            for slots in held.all_slots():
                rings = 0
                for size in range(len(moments) + 1):
                    for ring in itertools.permutations(moments, size):
                        expected = held.is_ring(slots, list(ring))
                        rings += expected
                        self.assertIs(is_ring_with(held.run, slots, list(ring)), expected)
                self.assertIs(rings == 0, goes_with(held.run, slots))
                many += rings
        self.assertGreater(many, 20)

    def test_least_slots(self):
        several = 0
        for held in self.told:
            least = held.least()
            several += len(least) > 1
            self.assertEqual(least_slots(held.run), least)
            for slots in held.all_slots():
                self.assertIs(is_least_slots(held.run, slots), slots in least)
                # a line keeps slots exactly if they are nowhere less than some least ones
                self.assertIs(goes_with(held.run, slots), any(within(some, slots) for some in least))
        self.assertGreater(several, 0)

    def test_least_numbers_of_single_lanes(self):
        for held in self.told:
            expected = {lane: min(most[lane] for most in held.most) for lane in held.lanes}
            self.assertEqual(lane_leasts(held.run), expected)
            for lane, many in expected.items():
                self.assertEqual(least_of_lane(held.run, lane), many)

    def test_fewest_lying_letters(self):
        for held in self.told:
            most = [max(lying_along(held.run, line), default=0) for line in held.counted.lines]
            self.assertEqual(fewest_lying(held.run), min(most))
            self.assertEqual(most[held.counted.lines.index(fewest_line(held.run))], min(most))
            for line, many in list(zip(held.counted.lines, most))[:60]:
                self.assertIs(is_fewest_line(held.run, line), many == min(most))


class WhereNothingLies(unittest.TestCase):
    @classmethod
    def setUpClass(cls):
        chance = random.Random(57)
        cls.told = [Run(chance_taken(chance, 2 + k % 4, 3 + k % 3)) for k in range(60)] + [Run({}), Run(TWO), crown(4)]

    def test_slots_go_exactly_if_they_go_for_each_prime(self):
        for run in self.told:
            lanes = lanes_of(run)
            for counts in itertools.product((1, 2), repeat=len(lanes)):
                slots = dict(zip(lanes, counts))
                parts = [goes_with(part, {lane: slots[lane] for lane in lanes_of(part)}) for part in primes_of(run)]
                self.assertIs(goes_with(run, slots), all(parts))

    def test_fewest_lying_is_the_greatest_number_of_the_primes(self):
        for run in self.told:
            parts = [fewest_lying(part) for part in primes_of(run)]
            self.assertEqual(fewest_lying(run), max(parts, default=0))
            self.assertIs(fewest_lying(run) <= 1, is_of(run, "hand"))


class Edges(unittest.TestCase):
    def test_runs_without_letters(self):
        for run in (Run({}), Run({"a": [], "b": []})):
            self.assertEqual([lanes_of(run), lying_in(run, []), lane_leasts(run), least_slots(run)], [[], {}, {}, [{}]])
            self.assertEqual([goes_with(run, {}), line_with(run, {}), arrows_with(run, {}), ring_with(run, {})],
                             [True, [], [], None])
            self.assertEqual([is_line_with(run, {}, []), is_least_slots(run, {}), is_ring_with(run, {}, [])],
                             [True, True, False])
            self.assertEqual([fewest_lying(run), fewest_line(run), is_fewest_line(run, [])], [0, [], True])
            self.assertIs(is_line_with(run, {}, ()), False)

    def test_idle_parties_mean_nothing(self):
        for rows in (TWO, EXAMPLE, LOST):
            run, more = Run(rows), Run({**rows, "idle": []})
            self.assertEqual([lanes_of(more), lane_leasts(more), least_slots(more), fewest_lying(more)],
                             [lanes_of(run), lane_leasts(run), least_slots(run), fewest_lying(run)])

    def test_letters_that_lie_have_their_ends_behind_the_takes(self):
        run = Run({"p": [("send", "a", "q"), ("send", "b", "q"), ("send", "c", "q"), ("send", "d", "q")],
                   "q": [("take", "c"), ("take", "b")]})
        ends = [("c", "take"), ("b", "take"), ("a", "lie"), ("d", "lie")]
        for many in range(1, 6):
            arrows = sorted((ends[k], ("abcd"[k + many], "send")) for k in range(4 - many))
            self.assertEqual(arrows_with(run, {PQ: many}), arrows)
        self.assertEqual([lane_leasts(run), fewest_lying(run)], [{PQ: 3}, 3])

    def test_a_lane_in_which_all_letters_lie(self):
        run = Run({"p": [("send", letter, "q") for letter in "cab"], "q": []})
        self.assertEqual(arrows_with(run, {PQ: 1}), [(("a", "lie"), ("b", "send")), (("c", "lie"), ("a", "send"))])
        self.assertEqual(arrows_with(run, {PQ: 2}), [(("c", "lie"), ("b", "send"))])
        self.assertEqual([goes_with(run, {PQ: many}) for many in (1, 2, 3, 4)], [False, False, True, True])
        self.assertIs(is_ring_with(run, {PQ: 2}, [("c", "lie"), ("b", "send")]), True)
        self.assertIs(is_ring_with(run, {PQ: 2}, [("a", "lie"), ("b", "send")]), False)
        self.assertEqual([least_slots(run), fewest_lying(run)], [[{PQ: 3}], 3])

    def test_more_slots_than_letters(self):
        for rows in (TWO, EXAMPLE, SWAPPED, LOST, CROSSED):
            run = Run(rows)
            slots = {lane: 10 ** 29 for lane in lanes_of(run)}
            self.assertEqual([goes_with(run, slots), arrows_with(run, slots), ring_with(run, slots)], [True, [], None])
            self.assertIs(is_line(run, line_with(run, slots)), True)
            self.assertIs(is_least_slots(run, slots), False)

    def test_least_numbers_of_single_lanes_that_are_no_least_slots(self):
        run = Run(TWO)
        self.assertEqual(lane_leasts(run), TIGHT)
        self.assertIs(is_least_slots(run, TIGHT), False)
        self.assertIs(goes_with(run, TIGHT), False)
        self.assertEqual(least_slots(run), [LOOSE, {PQ: 2, QP: 1}])
        self.assertIs(is_least_slots(run, {PQ: 2, QP: 2}), False)

    def test_a_lane_holds_a_letter_from_its_send_to_its_take(self):
        self.assertEqual(lying_in(Run(TWO), FIRST), {PQ: 2, QP: 2})
        self.assertEqual(lying_in(Run(TWO), KEEPING), LOOSE)
        run = Run(MIXED)
        self.assertEqual(lying_in(run, first_line(run)), {lane: 1 for lane in lanes_of(run)})
        self.assertEqual(lanes_of(run), [("a", "b"), ("a", "c"), ("b", "a"), ("c", "e")])
        self.assertEqual(sorted(lying(run)), ["c", "e", "x"])

    def test_takes_in_another_order_than_sends(self):
        # the ends stand as the receiver takes them
        run = Run(SWAPPED)
        self.assertEqual(arrows_with(run, {("a", "b"): 1}), [(("y", "take"), ("y", "send"))])
        self.assertEqual([goes_with(run, {("a", "b"): 1}), lane_leasts(run)], [False, {("a", "b"): 2}])


if __name__ == "__main__":
    unittest.main()
