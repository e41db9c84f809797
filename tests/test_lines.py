"""[22] to [26]: lines, their numbers, what lies along them and how far they are apart."""

import itertools
import math
import random
import unittest

from postways.ahead import are_beside, events
from postways.errors import InvalidLine, InvalidNumber, InvalidPlace, InvalidRun, Refused
from postways.lines import apart, first_line, is_line, line_at, lying_along, many_lines, number_of, swapped
from postways.runs import Run
from tests.calls import Call, CallCase, EachCall, call_of, odd_but
from tests.samples import EXAMPLE, MIXED, chance_rows, example, mixed, plain_lines, small_rows

FIRST = [("x", "send"), ("x", "take"), ("y", "send"), ("z", "send"), ("z", "take"), ("y", "take")]
RUN = ("run", example, InvalidRun)
LINE = ("line", lambda: list(FIRST), InvalidLine)
CALLS = [
    Call(is_line, RUN, ("value", lambda: list(FIRST), None)),
    Call(many_lines, RUN),
    Call(first_line, RUN),
    Call(line_at, RUN, ("number", lambda: 3, InvalidNumber)),
    Call(number_of, RUN, LINE),
    Call(lying_along, RUN, LINE),
    Call(apart, RUN, ("one", lambda: list(FIRST), InvalidLine),
         ("other", lambda: [FIRST[0], FIRST[2], FIRST[1], *FIRST[3:]], InvalidLine)),
    Call(swapped, RUN, LINE, ("place", lambda: 1, InvalidPlace)),
]
GOOD = {
    InvalidNumber: [0, 1, 2],
    InvalidLine: [],
    InvalidPlace: [0, 1, 2],
}


class Examples(unittest.TestCase):
    def test_the_block_of_the_document(self):
        run = Run({"a": [("send", "x", "b"), ("send", "y", "c")], "b": [("take", "x"), ("send", "z", "c")],
                   "c": [("take", "z"), ("take", "y")]})
        self.assertEqual(
            [many_lines(run), first_line(run), lying_along(run, first_line(run))],
            [4, [('x', 'send'), ('x', 'take'), ('y', 'send'), ('z', 'send'), ('z', 'take'), ('y', 'take')],
             [1, 0, 1, 2, 1, 0]])
        self.assertEqual(
            [apart(run, line_at(run, 0), line_at(run, 2)), number_of(run, swapped(run, line_at(run, 0), 1)),
             is_line(run, first_line(run)[::-1])],
            [2, 3, False])


class Wrong(EachCall, CallCase):
    calls, good = CALLS, GOOD

    def test_lists_that_are_no_lines(self):
        other = FIRST[2]
        wrongs = [tuple(FIRST), FIRST[:-1], FIRST[1:], [*FIRST, other], [*FIRST[:-1], other], FIRST[::-1], [],
                  [FIRST[1], FIRST[0], *FIRST[2:]], [*FIRST[:4], FIRST[5], FIRST[4]], [[*event] for event in FIRST],
                  [*FIRST[:-1], ("y", "lie")], [*FIRST[:-1], ("y", "take ")], [*FIRST[:-1], None],
                  [*FIRST[:-1], ("q", "take")], [*FIRST[:-1], ("y", "take", "c")], [*FIRST[:-1], ["y", "take"]],
                  [*FIRST[:-1], True], [FIRST[0]] * 6, {event: True for event in FIRST}, "x", [FIRST],
                  [*FIRST[:-1], Run({})], [1, 2, 3, 4, 5, 6]]
        self.check_judge(call_of(CALLS, is_line), wrongs)
        for call in CALLS:
            for position, error in enumerate(call.errors):
                if error is InvalidLine:
                    self.check_wrong(call, position, wrongs)

    def test_the_judge_of_lines_returns_false_for_odd_objects(self):
        self.check_judge(call_of(CALLS, is_line), odd_but())

    def test_lines_of_other_runs(self):
        lying = [("a", "send"), ("x", "send"), ("a", "take")]
        for line in (lying, [("x", "send"), ("x", "take")]):
            for function in (number_of, lying_along):
                self.check_error(Call(function, RUN, LINE), [mixed(), line], InvalidLine, line)

    def test_numbers_of_no_line(self):
        wrongs = [4, 5, -1, -4, 10 ** 29, True, False, "0", None, [0], (0,), {0: 0}]
        self.check_wrong(call_of(CALLS, line_at), 1, wrongs)
        self.check_error(call_of(CALLS, line_at), [Run({}), 1], InvalidNumber, 1)

    def test_places_with_none_behind_them(self):
        wrongs = [5, 6, -1, -6, 10 ** 29, True, False, "0", None, [0], (0,), {0: 0}]
        self.check_wrong(call_of(CALLS, swapped), 2, wrongs)
        for place in (0, 1, -1, True):
            self.check_error(call_of(CALLS, swapped), [Run({}), [], place], InvalidPlace, place)

    def test_swaps_of_what_is_not_beside_are_refused_behind_all_else(self):
        for place in (0, 3, 4):
            self.assertIs(are_beside(example(), FIRST[place], FIRST[place + 1]), False)
            self.check_error(call_of(CALLS, swapped), [example(), list(FIRST), place], Refused, place)
        wrong = FIRST[::-1]
        self.check_error(call_of(CALLS, swapped), [example(), wrong, 0], InvalidLine, wrong)
        self.check_error(call_of(CALLS, swapped), [None, FIRST, 0], InvalidRun, None)


class SmallRuns(unittest.TestCase):
    """What is returned, held against a plain count by all orders of the events."""

    @classmethod
    def setUpClass(cls):
        cls.told = [(Run(rows), plain_lines(rows)) for rows in small_rows() + [MIXED]]

    def test_lines_and_their_numbers(self):
        for run, lines in self.told:
            self.assertEqual(many_lines(run), len(lines))
            self.assertEqual(first_line(run), lines[0])
            for number, line in enumerate(lines):
                self.assertEqual(line_at(run, number), line)
                self.assertEqual(number_of(run, line), number)
            for number in (-1, len(lines)):
                self.assertRaises(InvalidNumber, line_at, run, number)

    def test_all_orders(self):
        for run, lines in self.told:
            if len(events(run)) < 6:
                for order in itertools.permutations(events(run)):
                    self.assertIs(is_line(run, list(order)), list(order) in lines)
                    self.assertIs(is_line(run, order), False)

    def test_all_orders_of_six_events(self):
        run, lines = Run(EXAMPLE), plain_lines(EXAMPLE)
        for order in itertools.permutations(events(run)):
            self.assertIs(is_line(run, list(order)), list(order) in lines)

    def test_what_lies_along_lines(self):
        for run, lines in self.told:
            for line in lines[:40]:
                begun = [line[:k + 1] for k in range(len(line))]
                lying = [[letter for letter, word in some if word == "send" and (letter, "take") not in some]
                         for some in begun]
                self.assertEqual(lying_along(run, line), [len(letters) for letters in lying])

    def test_swaps(self):
        for run, lines in self.told:
            for line in lines[:40]:
                for place in range(len(line) - 1):
                    other = [*line[:place], line[place + 1], line[place], *line[place + 2:]]
                    if other in lines:
                        self.assertEqual(swapped(run, line, place), other)
                        self.assertEqual(apart(run, line, other), 1)
                    else:
                        with self.assertRaises(Refused) as caught:
                            swapped(run, line, place)
                        self.assertIs(caught.exception.value, place)

    def test_apart_counts_the_fewest_swaps_over_lines(self):
        for run, lines in self.told:
            if len(lines) <= 40:
                for line in lines:
                    steps = fewest_swaps(line, lines)
                    for other in lines:
                        self.assertEqual(apart(run, line, other), steps[tuple(other)])

    def test_four_letters(self):
        chance = random.Random(11)
        told = 0
        while told < 4:
            rows = chance_rows(chance, 4, 4)
            if sum(map(len, rows.values())) < 8:
                continue
            told += 1
            run, lines = Run(rows), plain_lines(rows)
            self.assertEqual([many_lines(run), first_line(run)], [len(lines), lines[0]])
            for number in {0, len(lines) - 1, *[chance.randrange(len(lines)) for _ in range(30)]}:
                self.assertEqual([line_at(run, number), number_of(run, lines[number])], [lines[number], number])


def fewest_swaps(line, lines):
    """How many swaps of neighbours lead from a line to each line, over lines alone."""
    known = {tuple(other) for other in lines}
    steps, ready = {tuple(line): 0}, [tuple(line)]
    for here in ready:
        for k in range(len(here) - 1):
            there = (*here[:k], here[k + 1], here[k], *here[k + 2:])
            if there in known and there not in steps:
                steps[there] = steps[here] + 1
                ready.append(there)
    return steps


class Edges(unittest.TestCase):
    def test_runs_without_letters(self):
        for run in (Run({}), Run({"a": [], "b": []})):
            self.assertEqual([many_lines(run), first_line(run), line_at(run, 0), number_of(run, [])], [1, [], [], 0])
            self.assertEqual([lying_along(run, []), apart(run, [], []), is_line(run, [])], [[], 0, True])
            self.assertRaises(InvalidNumber, line_at, run, 1)

    def test_the_first_line_and_the_last_one(self):
        run = example()
        self.assertEqual([line_at(run, 0), number_of(run, first_line(run))], [FIRST, 0])
        last = [("x", "send"), ("y", "send"), ("x", "take"), ("z", "send"), ("z", "take"), ("y", "take")]
        self.assertEqual([line_at(run, 3), number_of(run, last)], [last, 3])
        self.assertEqual([swapped(run, last, 1), swapped(run, FIRST, 1)], [FIRST, last])

    def test_letters_that_lie_stay(self):
        run = Run({"a": [("send", "x", "b"), ("send", "y", "b")], "b": [("take", "y")]})
        self.assertEqual(lying_along(run, first_line(run)), [1, 2, 1])

    def test_places_up_to_the_last_but_one(self):
        run = Run({"a": [("send", "x", "c")], "b": [("send", "y", "c")], "c": []})
        self.assertEqual(swapped(run, [("x", "send"), ("y", "send")], 0), [("y", "send"), ("x", "send")])
        self.assertRaises(InvalidPlace, swapped, run, [("x", "send"), ("y", "send")], 1)

    def test_a_line_is_not_apart_from_itself(self):
        run = example()
        for number in range(4):
            self.assertEqual(apart(run, line_at(run, number), line_at(run, number)), 0)

    def test_parties_and_letters_that_share_a_word(self):
        run = Run({"a": [("send", "b", "b"), ("take", "a")], "b": [("send", "a", "a"), ("take", "b")]})
        self.assertEqual([many_lines(run), first_line(run)],
                         [4, [("a", "send"), ("b", "send"), ("a", "take"), ("b", "take")]])

    def test_many_lines_of_letters_apart(self):
        rows = {}
        for k, letter in enumerate("mnop"):
            rows["abcd"[k]], rows["efgh"[k]] = [("send", letter, "efgh"[k])], [("take", letter)]
        self.assertEqual(many_lines(Run(rows)), math.factorial(8) // 2 ** 4)


if __name__ == "__main__":
    unittest.main()
