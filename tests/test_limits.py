"""[3]: up to the limits each call returns within some seconds."""

import math
import random
import time
import unittest

from postways import ahead, lines, runs
from postways.runs import Run
from tests.samples import chance_rows

SECONDS = 5
PARTIES = "abcdefgh"


def round_about(many):
    """A run of eight parties, each of which sends a letter to the next one and takes one: very many fronts."""
    return Run({PARTIES[k]: [("send", PARTIES[k], PARTIES[(k + 1) % many]), ("take", PARTIES[k - 1 if k else many - 1])]
                for k in range(many)})


def pairs():
    """A run of four pairs of parties, of which the one sends two letters that the other takes the last one first."""
    rows = {}
    for k in range(4):
        sender, receiver = PARTIES[2 * k], PARTIES[2 * k + 1]
        rows[sender] = [("send", sender, receiver), ("send", receiver, receiver)]
        rows[receiver] = [("take", receiver), ("take", sender)]
    return Run(rows)


def all_lie():
    """A run of eight parties, each of which sends a letter that is never taken."""
    return Run({PARTIES[k]: [("send", PARTIES[k], PARTIES[k - 1])] for k in range(8)})


def thirty():
    """Runs of thirty letters among eight parties."""
    words = [head + tail for head in "lm" for tail in "abcdefghijklmno"]
    for seed in range(3):
        rows, chance = {name: [] for name in PARTIES}, random.Random(seed)
        for word in words:
            sender, receiver = chance.sample(PARTIES, 2)
            rows[sender].append(("send", word, receiver))
            rows[receiver].append(("take", word))
        yield Run(rows)


class Limits(unittest.TestCase):
    def in_time(self, function, *arguments):
        """What a call returns, if it does within some seconds."""
        begun = time.monotonic()
        outcome = function(*arguments)
        self.assertLess(time.monotonic() - begun, SECONDS, function.__name__)
        return outcome

    def test_runs_of_thirty_letters(self):
        for run in thirty():
            letters, parties = run.letters(), run.parties()
            self.assertEqual(len(letters), 30)
            self.assertEqual(self.in_time(Run, run.rows()), run)
            self.assertTrue(self.in_time(runs.is_rows, run.rows()))
            for letter in letters:
                for function in (runs.sender_of, runs.receiver_of, runs.lies):
                    self.in_time(function, run, letter)
            self.assertEqual(self.in_time(runs.lying, run), [])
            self.assertEqual(sum(len(self.in_time(runs.lane, run, one, other))
                                 for one in parties for other in parties if one != other), 30)
            some = self.in_time(runs.kept, run, letters[::2])
            self.assertTrue(self.in_time(runs.is_kept_of, some, run))
            self.in_time(runs.called, run, dict(zip(letters, letters[::-1])))
            self.in_time(runs.moved, run, dict(zip(parties, parties[::-1])))
            self.assertEqual(self.in_time(runs.busy, run), runs.busy(run))
            self.assertEqual(self.in_time(runs.named, some).letters(), list("abcdefghijklmno"))
            self.assertTrue(self.in_time(runs.are_alike, some, runs.named(some)))
            self.assertEqual(self.in_time(runs.turned_back, self.in_time(runs.turned_back, run)), run)

    def test_runs_of_eight_letters(self):
        chance = random.Random(3)
        made = [round_about(8), pairs(), all_lie(), *[Run(chance_rows(chance, 8, 8)) for _ in range(3)]]
        for run in made:
            known = self.in_time(ahead.events, run)
            for event in known:
                self.in_time(ahead.all_ahead, run, event)
                self.in_time(ahead.all_beside, run, event)
                self.in_time(ahead.is_ahead, run, known[0], event)
                self.in_time(ahead.are_beside, run, known[0], event)
            for party in run.parties():
                self.in_time(ahead.heard_of, run, party)
            fronts = self.in_time(ahead.fronts, run)
            self.assertEqual(self.in_time(ahead.many_fronts, run), len(fronts))
            for front in fronts[::len(fronts) // 20 + 1]:
                self.assertTrue(self.in_time(ahead.is_front, run, front))
                self.assertEqual(self.in_time(ahead.least_front, run, front), front)
                self.in_time(ahead.may_come, run, front)

    def test_lines_of_eight_letters(self):
        for run in (round_about(8), pairs(), all_lie()):
            many = self.in_time(lines.many_lines, run)
            first, last = self.in_time(lines.first_line, run), self.in_time(lines.line_at, run, many - 1)
            self.assertEqual(self.in_time(lines.line_at, run, 0), first)
            for number in (0, 1, many // 2, many - 1):
                line = self.in_time(lines.line_at, run, number)
                self.assertTrue(self.in_time(lines.is_line, run, line))
                self.assertEqual(self.in_time(lines.number_of, run, line), number)
                self.in_time(lines.lying_along, run, line)
            self.assertGreater(self.in_time(lines.apart, run, first, last), 0)
            place = next(k for k in range(len(last)) if ahead.are_beside(run, last[k], last[k + 1]))
            self.in_time(lines.swapped, run, last, place)

    def test_many_lines_of_eight_letters(self):
        self.assertEqual(lines.many_lines(all_lie()), 40320)
        # the four events of each pair come in one order, so only the pairs are mixed
        self.assertEqual(lines.many_lines(pairs()), math.factorial(16) // math.factorial(4) ** 4)


if __name__ == "__main__":
    unittest.main()
