"""[69] to [74]: logs without names, the runs that fit them, how far parties go along them."""

import itertools
import random
import unittest

from postways.errors import InvalidLetter, InvalidLine, InvalidLog, InvalidRun, Refused
from postways.kinds import KINDS, is_of, least_kind
from postways.lines import many_lines
from postways.logs import (changed_about, done_of, fits, fitting, is_log, kind_of_log, lanes_run, log_of, many_fitting,
                           marks_along, same_log, waits_at)
from postways.rings import crossing, crown
from postways.runs import Run, are_alike, called, is_rows, lying, named
from postways.slots import fewest_lying, goes_with, lane_leasts, least_slots
from tests.calls import Call, CallCase, EachCall, call_of, odd_but, shown, told
from tests.samples import (CROSSED, CROSSING, EXAMPLE, HELD, KNOT, LATE, LOST, MIXED, SWAPPED, TWO, all_runs_of_two,
                           chain, chance_rows, deep, lines_by_steps, plain_lines, small_rows)

LOG = {"p": [("to", "q"), ("to", "q")], "q": [("from", "p"), ("from", "p")]}
STUCK = {"p": [("from", "q"), ("to", "q")], "q": [("to", "r"), ("from", "p"), ("to", "p")], "r": []}
PAIR = {"p": [("send", "x", "q"), ("send", "y", "q")], "q": [("take", "y"), ("take", "x")]}
LINE = [("x", "send"), ("y", "send"), ("y", "take"), ("x", "take")]
LOGGED = ("log", lambda: {party: list(marks) for party, marks in LOG.items()}, InvalidLog)
RUN = ("run", lambda: Run(PAIR), InvalidRun)
CALLS = [
    Call(is_log, ("value", lambda: {party: list(marks) for party, marks in LOG.items()}, None)),
    Call(log_of, RUN),
    Call(fits, LOGGED, RUN),
    Call(fitting, LOGGED),
    Call(many_fitting, LOGGED),
    Call(lanes_run, LOGGED),
    Call(marks_along, RUN, ("line", lambda: list(LINE), InvalidLine)),
    Call(done_of, LOGGED),
    Call(waits_at, ("log", lambda: {"p": [("from", "q")], "q": [("from", "p")]}, InvalidLog)),
    Call(kind_of_log, LOGGED),
    Call(same_log, ("one", lambda: Run(PAIR), InvalidRun), ("other", lambda: Run(PAIR), InvalidRun)),
    Call(changed_about, RUN, ("letter", lambda: "x", InvalidLetter), ("other", lambda: "y", InvalidLetter)),
]
GOOD = {InvalidLog: [{}, {"a": []}], InvalidLine: [], InvalidLetter: ["x"]}
NO_LOGS = [
    {"p": [("to", "p")]}, {"p": [("to", "q")]}, {"p": [("from", "q")]}, {"p": [("to", "q")], "q": (("from", "p"),)},
    {"p": [["to", "q"]], "q": []}, {"p": [("to", "q", "q")], "q": []}, {"p": [("to",)], "q": []},
    {"p": [("send", "q")], "q": []}, {"p": [("To", "q")], "q": []}, {"p": [("to ", "q")], "q": []},
    {"p": [("to", "q ")], "q ": []}, {"P": []}, {"p ": []}, {"": []}, {"abcdefghi": []}, {1: []}, {None: []},
    {("p",): []}, {True: []}, {"p": ()}, {"p": {}}, {"p": "to"}, {"p": None}, {"p": [None]}, {"p": [()]}, {"p": [True]},
    {"p": [("to", None)]}, {"p": [("to", ["q"])], "q": []}, {"p": [("to", {"q": 1})], "q": []}, {"p": ["to", "q"]},
    {"p": [(("to",), "q")], "q": []}, {"p": [("to", ("q",))], "q": []}, {"p": [(True, "q")], "q": []},
    [("p", [])], (("p", ()),), [], ["p"], "p", {"p": {"q": "to"}, "q": []}, {"p": [{"to": "q"}], "q": []},
    {"p": [("to", "q")] * 27, "q": []}, {"p": [("to", "q")] * 20, "q": [("to", "p")] * 7},
    {"p": Run({})}, {"p": [Run({})]}, {"p": [("to", Run({}))]}, {"p": [(Run({}), "q")], "q": []}, Run({}),
    {"p": deep(lambda inner: [inner])}, {"p": [deep(lambda inner: (inner,))]}, {"p": [("to", deep(lambda x: (x,)))]},
    {"p": [], "q": [("from", "r")]}, {"p": [("to", "q"), None], "q": []}, {"p": [("TO", "q")], "q": []},
]


class Examples(unittest.TestCase):
    def test_the_block_of_the_document(self):
        swapped = Run({"p": [("send", "x", "q"), ("send", "y", "q")], "q": [("take", "y"), ("take", "x")]})
        log = log_of(swapped)
        self.assertEqual(
            [log, many_fitting(log), lanes_run(log).rows()["q"], kind_of_log(log), fits(log, swapped),
             same_log(swapped, changed_about(swapped, "x", "y"))],
            [{'p': [('to', 'q'), ('to', 'q')], 'q': [('from', 'p'), ('from', 'p')]}, 2, [('take', 'a'), ('take', 'b')],
             'hand', True, True])
        stuck = {"p": [("from", "q"), ("to", "q")], "q": [("to", "r"), ("from", "p"), ("to", "p")], "r": []}
        self.assertEqual(
            [is_log(stuck), fitting(stuck), done_of(stuck), waits_at(stuck), lanes_run(stuck)],
            [True, [], {'p': 0, 'q': 1, 'r': 0}, {'p': ('from', 'q'), 'q': ('from', 'p')}, None])
        self.assertEqual(
            marks_along(swapped, [("x", "send"), ("y", "send"), ("y", "take"), ("x", "take")]),
            [('p', ('to', 'q')), ('p', ('to', 'q')), ('q', ('from', 'p')), ('q', ('from', 'p'))])


class Wrong(EachCall, CallCase):
    calls, good = CALLS, GOOD

    def test_objects_that_are_no_logs(self):
        for call in CALLS:
            if call.errors[0] is InvalidLog:
                self.check_wrong(call, 0, NO_LOGS)
        self.check_judge(call_of(CALLS, is_log), NO_LOGS)
        self.check_judge(call_of(CALLS, is_log), odd_but({}, {"a": []}))

    def test_objects_that_are_logs(self):
        for log in ({}, {"a": []}, STUCK, {"to": [("to", "from")], "from": []}, {"p": [("from", "q")] * 60, "q": []},
                    {"p": [("to", "q")] * 26, "q": [("from", "p")] * 30}, {"p": [("to", "q")] * 20, "q": [("to", "p")] * 6}):
            self.assertIs(is_log(log), True)

    def test_lists_that_are_no_lines(self):
        wrongs = [tuple(LINE), LINE[:-1], LINE[::-1], [], [*LINE, LINE[0]], [[*event] for event in LINE], [LINE],
                  [*LINE[:-1], None], [*LINE[:-1], ("x", "lie")], {event: 1 for event in LINE}, [LINE[1], *LINE[1:]]]
        self.check_wrong(call_of(CALLS, marks_along), 1, wrongs)

    def test_letters_that_are_none_of_the_run(self):
        for position in (1, 2):
            self.check_wrong(call_of(CALLS, changed_about), position,
                             ["a", "p", "x ", " x", "X", "xy", ("x",), ["x"], True, "", {"x": "y"}, Run(PAIR)])

    def test_changes_that_are_refused(self):
        call = call_of(CALLS, changed_about)
        for rows, letter, other in (
            (PAIR, "x", "x"), (EXAMPLE, "x", "y"), (EXAMPLE, "y", "z"), (CROSSED, "x", "y"),
            ({"a": [("send", "x", "b"), ("send", "y", "b")], "b": []}, "x", "y"), (LOST, "x", "x"), (LOST, "y", "y"),
            # y is sent when x was answered
            ({"a": [("send", "x", "b"), ("take", "z"), ("send", "y", "b")],
              "b": [("take", "x"), ("send", "z", "a"), ("take", "y")]}, "x", "y"),
            ({"a": [("send", "x", "b"), ("take", "z"), ("send", "y", "b")],
              "b": [("take", "x"), ("send", "z", "a")]}, "x", "y"),
        ):
            for pair in ((letter, other), (other, letter)):
                text = "".join(pair[1:])
                self.check_error(call, [Run(rows), pair[0], text], Refused, text)
        self.check_error(call, [Run(EXAMPLE), "x", "q"], InvalidLetter, "q")

    def test_runs_of_more_than_twenty_six_letters(self):
        many, other = chain(27), chain(28)
        self.check_error(call_of(CALLS, log_of), [many], Refused, many)
        self.assertEqual([len(marks) for marks in log_of(chain(26)).values()], [26, 26])
        self.assertIs(fits(log_of(chain(26)), many), False)
        self.assertIs(fits(LOG, many), False)
        again = called(many, {letter: "t" + letter for letter in many.letters()})
        self.assertEqual([same_log(many, again), same_log(many, other), same_log(many, chain(26))], [True, False, False])

    def test_keys_ascend_whatever_the_order_of_the_log(self):
        turned = {party: STUCK[party] for party in "rqp"}
        for log in (turned, STUCK):
            self.assertEqual([list(done_of(log)), list(waits_at(log))], [["p", "q", "r"], ["p", "q"]])
        self.assertEqual(list(log_of(Run(MIXED))), ["a", "b", "c", "d", "e"])
        log = {"q": LOG["q"], "p": LOG["p"]}
        self.assertEqual([fitting(log), lanes_run(log)], [fitting(LOG), lanes_run(LOG)])
        self.assertIs(fits(log, Run(PAIR)), True)


def plain_log(rows):
    """The log of rows, party by party."""
    senders = {deed[1]: party for party, row in rows.items() for deed in row if deed[0] == "send"}
    return {party: [("to", deed[2]) if deed[0] == "send" else ("from", senders[deed[1]]) for deed in row]
            for party, row in rows.items()}


def plain_fitting(log):
    """All named runs that fit a log, by all ways to take any letters at its marks "from"."""
    letters, rows = iter("abcdefgh"), {}
    for party in sorted(log):
        rows[party] = [("send", next(letters), other) if word == "to" else ("take", None) for word, other in log[party]]
    sent = [deed[1] for row in rows.values() for deed in row if deed[0] == "send"]
    places = [(party, k) for party, row in rows.items() for k, deed in enumerate(row) if deed[0] == "take"]
    found = []
    for taken in itertools.permutations(sent, len(places)):
        filled = {party: list(row) for party, row in rows.items()}
        for (party, k), letter in zip(places, taken):
            filled[party][k] = ("take", letter)
        if is_rows(filled) and plain_log(filled) == log:
            found.append(Run(filled))
    return sorted(found, key=lambda run: list(run.rows().values()))


def chance_log(chance, parties, marks):
    """A log of so many marks, as chance makes it; often no run fits it."""
    names = "pqrs"[:parties]
    log = {name: [] for name in names}
    for _ in range(marks):
        party, other = chance.sample(names, 2)
        log[party].append((chance.choice(["to", "from"]), other))
    return log


def go_by_chance(chance, log):
    """How far each party goes, the next one to go on being chosen by chance."""
    done = {party: 0 for party in log}

    def lies(sender, receiver):
        sent = log[sender][:done[sender]].count(("to", receiver))
        return sent - log[receiver][:done[receiver]].count(("from", sender))

    while True:
        able = [party for party, marks in log.items() if done[party] < len(marks) and (
            marks[done[party]][0] == "to" or lies(marks[done[party]][1], party) > 0)]
        if not able:
            return done
        done[chance.choice(able)] += 1


class SmallLogs(unittest.TestCase):
    """What is told of logs, held against all runs that fit them."""

    @classmethod
    def setUpClass(cls):
        chance = random.Random(69)
        runs = [Run(rows) for rows in [*small_rows(), MIXED, TWO, CROSSING, KNOT, LATE, HELD, LOST]]
        runs += all_runs_of_two()[::4] + [Run(chance_rows(chance, 2, 4)) for _ in range(20)]
        runs += [Run(chance_rows(chance, 2 + k % 2, 5)) for k in range(6)]
        logs = [plain_log(run.rows()) for run in runs]
        logs += [chance_log(chance, 2 + k % 3, 1 + k % 6) for k in range(150)]
        logs += [{}, {"p": []}, LOG, STUCK, {"p": [("to", "q")] * 5, "q": []}, {"p": [("from", "q")], "q": []},
                 {"p": [("to", "q")] * 5, "q": [("from", "p")] * 2},
                 {"p": [("to", "q")] * 3, "q": [("from", "p"), ("from", "r"), ("from", "p")], "r": [("to", "q")] * 2},
                 {"p": [("to", "q")] * 2, "q": [("from", "p")] * 3}]
        cls.runs, cls.chance = runs, chance
        cls.told = [(log, plain_fitting(log)) for log in logs if sum(m[0] == "to" for k in log.values() for m in k) <= 5]

    def test_logs_of_runs(self):
        for run in self.runs:
            log = plain_log(run.rows())
            self.assertEqual([log_of(run), is_log(log), fits(log, run)], [log, True, True])
            more = {**log, "idle": []}
            self.assertEqual([fits(more, run), log_of(Run({**run.rows(), "idle": []}))], [False, more])
            for other in self.runs[:20]:
                same = plain_log(other.rows()) == log
                self.assertEqual([same_log(run, other), fits(log, other)], [same, same])

    def test_which_runs_fit(self):
        seen = set()
        for log, runs in self.told:
            self.assertEqual(fitting(log), runs)
            self.assertEqual(many_fitting(log), len(runs))
            for run in runs:
                self.assertEqual([named(run), fits(log, run)], [run, True])
            seen.add(min(len(runs), 7))
            # the order of the keys means nothing
            turned = {party: log[party] for party in list(log)[::-1]}
            self.assertEqual([fitting(turned), lanes_run(turned)], [runs, lanes_run(log)])
        self.assertLessEqual({0, 1, 2, 3, 4, 6, 7}, seen)

    def test_the_run_whose_lanes_are_in_order(self):
        for log, runs in self.told:
            run = lanes_run(log)
            if not runs:
                self.assertEqual([run, kind_of_log(log)], [None, None])
                continue
            # the only one that fits and is of "lanes", so the only one of each narrower kind
            self.assertEqual([run], [one for one in runs if is_of(one, "lanes")])
            self.assertIn(kind_of_log(log), KINDS)
            self.assertEqual(kind_of_log(log), least_kind(run))
            for one in runs:
                if any(is_of(one, kind) for kind in KINDS):
                    self.assertEqual(one, run)

    def test_marks_along_lines(self):
        for run in self.runs[::3]:
            ways = {deed[1]: (party, deed[2]) for party, row in run.rows().items() for deed in row if deed[0] == "send"}
            for line in lines_by_steps(run.rows())[:20]:
                expected = [(ways[letter][0], ("to", ways[letter][1])) if word == "send"
                            else (ways[letter][1], ("from", ways[letter][0])) for letter, word in line]
                self.assertEqual(marks_along(run, line), expected)

    def test_each_line_of_any_run_is_one_of_the_run_whose_lanes_are_in_order(self):
        several = 0
        for log, runs in self.told:
            if len(runs) < 2 or sum(map(len, log.values())) > 8:
                continue
            several += 1
            first = lanes_run(log)
            known = [marks_along(first, line) for line in lines_by_steps(first.rows())]
            slots = least_slots(first)
            for run in runs:
                lines = lines_by_steps(run.rows())
                self.assertTrue(all(marks_along(run, line) in known for line in lines[:60]))
                self.assertLessEqual(many_lines(run), len(known))
                self.assertLessEqual(fewest_lying(first), fewest_lying(run))
                for some in least_slots(run):
                    self.assertIs(goes_with(first, some), True)
                self.assertTrue(all(many >= lane_leasts(first)[lane] for lane, many in lane_leasts(run).items()))
            self.assertTrue(slots)
        self.assertGreater(several, 10)

    def test_how_far_parties_go_in_whatever_order(self):
        for log, runs in self.told:
            done = done_of(log)
            for _ in range(5):
                self.assertEqual(go_by_chance(self.chance, log), done)
            waits = {party: log[party][many] for party, many in done.items() if many < len(log[party])}
            self.assertEqual(waits_at(log), waits)
            # all are through exactly if some run fits
            self.assertIs(waits == {}, runs != [])

    def test_runs_come_from_one_another_by_changes(self):
        for log, runs in self.told:
            if not 1 < len(runs) < 30:
                continue
            reached, ready = [runs[-1]], [runs[-1]]
            while ready:
                run = ready.pop()
                for letter, other in itertools.permutations(run.letters(), 2):
                    changed = told(lambda: changed_about(run, letter, other))
                    if isinstance(changed, Run):
                        self.assertIs(same_log(run, changed), True)
                        if named(changed) not in reached:
                            reached.append(named(changed))
                            ready.append(named(changed))
            self.assertEqual(len(reached), len(runs))
            self.assertTrue(all(run in reached for run in runs))

    def test_changes(self):
        for run in self.runs:
            rows, letters = run.rows(), run.letters()
            lanes = {deed[1]: (party, deed[2]) for party, row in rows.items() for deed in row if deed[0] == "send"}
            for letter, other in itertools.product(letters, repeat=2):
                names = {letter: other, other: letter}
                changed = {party: [deed if deed[0] == "send" else ("take", names.get(deed[1], deed[1])) for deed in row]
                           for party, row in rows.items()}
                good = letter != other and lanes[letter] == lanes[other] and is_rows(changed)
                both = letter in lying(run) and other in lying(run)
                if good and not both:
                    self.assertEqual(changed_about(run, letter, other), Run(changed))
                    self.assertEqual(changed_about(Run(changed), other, letter), run)
                else:
                    with self.assertRaises(Refused) as caught:
                        changed_about(run, letter, other)
                    self.assertIs(caught.exception.value, other)


class Edges(unittest.TestCase):
    def test_the_log_without_parties(self):
        self.assertEqual([log_of(Run({})), fitting({}), many_fitting({}), lanes_run({}), done_of({}), waits_at({}),
                          kind_of_log({}), fits({}, Run({})), marks_along(Run({}), [])],
                         [{}, [Run({})], 1, Run({}), {}, {}, "hand", True, []])

    def test_idle_parties_stand_in_logs(self):
        run = Run({"a": [], "b": []})
        self.assertEqual([log_of(run), fitting({"b": [], "a": []}), done_of(log_of(run)), waits_at(log_of(run))],
                         [{"a": [], "b": []}, [run], {"a": 0, "b": 0}, {}])
        self.assertEqual([fits({}, run), fits({"a": []}, run), same_log(run, Run({}))], [False, False, False])
        self.assertIs(same_log(Run(MIXED), Run({party: row for party, row in MIXED.items() if party != "d"})), False)

    def test_letters_that_lie(self):
        self.assertEqual(log_of(Run(LOST)), {"a": [("to", "b"), ("to", "b")], "b": [("from", "a")]})
        self.assertEqual([many_fitting(log_of(Run(LOST))), lanes_run(log_of(Run(LOST))).rows()["b"]],
                         [2, [("take", "a")]])
        self.assertEqual(changed_about(Run(LOST), "x", "y").rows()["b"], [("take", "x")])
        self.assertEqual(changed_about(Run(LOST), "y", "x").rows()["b"], [("take", "x")])

    def test_the_order_of_the_runs_that_fit(self):
        self.assertEqual([run.rows()["q"] for run in fitting(LOG)],
                         [[("take", "a"), ("take", "b")], [("take", "b"), ("take", "a")]])
        log = {"p": [("to", "q")] * 5, "q": [("from", "p")] * 5}
        takes = [[deed[1] for deed in run.rows()["q"]] for run in fitting(log)]
        self.assertEqual(takes, sorted(map(list, itertools.permutations("abcde"))))

    def test_twenty_six_marks(self):
        log = {"p": [("to", "q")] * 26, "q": [("from", "p")] * 26}
        self.assertEqual([lanes_run(log).letters(), kind_of_log(log), done_of(log), waits_at(log)],
                         [list("abcdefghijklmnopqrstuvwxyz"), "hand", {"p": 26, "q": 26}, {}])
        log["q"].append(("from", "p"))
        self.assertEqual([lanes_run(log), kind_of_log(log), done_of(log), waits_at(log)],
                         [None, None, {"p": 26, "q": 26}, {"q": ("from", "p")}])

    def test_parties_that_wait_for_one_another(self):
        log = {"p": [("from", "q"), ("to", "q")], "q": [("from", "p"), ("to", "p")]}
        self.assertEqual([lanes_run(log), fitting(log), done_of(log), waits_at(log)],
                         [None, [], {"p": 0, "q": 0}, {"p": ("from", "q"), "q": ("from", "p")}])

    def test_kinds_of_logs_forget_the_names(self):
        self.assertEqual([kind_of_log(log_of(run)) for run in (crown(3), crossing(2), Run(SWAPPED), Run(LATE), Run(LOST))],
                         ["belt", "causal", "hand", "lanes", "belt"])
        self.assertIs(are_alike(lanes_run(log_of(crown(3))), crown(3)), True)

    def test_lines_of_all_runs_of_two_letters(self):
        for run in all_runs_of_two()[::9]:
            for line in plain_lines(run.rows()):
                self.assertEqual(shown([party for party, _ in marks_along(run, line)]),
                                 shown([self.doer(run, event) for event in line]))

    def doer(self, run, event):
        """The party in whose row an event stands."""
        return next(party for party, row in run.rows().items()
                    if any((deed[1], deed[0]) == event for deed in row))


if __name__ == "__main__":
    unittest.main()
