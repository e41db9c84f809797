"""[3]: up to the limits each call returns within some seconds."""

import math
import random
import time
import unittest

from postways import (ahead, desk, kinds, lines, logs, mending, papers, plans, posts, primes, products, rings, runs,
                      scripts, slots)
from postways.errors import InvalidText
from postways.kinds import KINDS
from postways.rings import crossing, crown, detour
from postways.runs import Run
from tests.samples import chain, chance_rows, chance_taken

SECONDS = 5
PARTIES = "abcdefgh"


def round_about(many):
    """A run of eight parties, each of which sends a letter to the next one and takes one: very many fronts."""
    return Run({PARTIES[k]: [("send", PARTIES[k], PARTIES[(k + 1) % many]), ("take", PARTIES[k - 1 if k else many - 1])]
                for k in range(many)})


def pairs():
    """A run of four pairs of parties, of which the one sends two letters that the other takes the last one first."""
    rows = {}
    for k in range(4):
        sender, receiver = PARTIES[2 * k], PARTIES[2 * k + 1]
        rows[sender] = [("send", sender, receiver), ("send", receiver, receiver)]
        rows[receiver] = [("take", receiver), ("take", sender)]
    return Run(rows)


def all_lie():
    """A run of eight parties, each of which sends a letter that is never taken."""
    return Run({PARTIES[k]: [("send", PARTIES[k], PARTIES[k - 1])] for k in range(8)})


def thirty():
    """Runs of thirty letters among eight parties."""
    words = [head + tail for head in "lm" for tail in "abcdefghijklmno"]
    for seed in range(3):
        rows, chance = {name: [] for name in PARTIES}, random.Random(seed)
        for word in words:
            sender, receiver = chance.sample(PARTIES, 2)
            rows[sender].append(("send", word, receiver))
            rows[receiver].append(("take", word))
        yield Run(rows)


def full():
    """Runs of eight letters: chosen ones, most of whose events are beside one another, then some made by chance."""
    fan = Run({**{party: [("send", party, "h")] for party in "abcdefg"}, "h": [("take", party) for party in "gfedcba"]})
    hall = Run({"a": [("send", letter, "b") for letter in "stuvwxyz"],
                "b": [("take", letter) for letter in "zyxwvuts"]})
    chance = random.Random(13)
    return [round_about(8), pairs(), all_lie(), fan, hall, *[Run(chance_rows(chance, 8, 8)) for _ in range(5)],
            *[Run(chance_rows(chance, 3, 8)) for _ in range(3)]]


def small():
    """Runs of five letters, some of whose events are mostly beside one another."""
    chance = random.Random(5)
    lie = Run({party: [("send", party, "f")] if party != "f" else [] for party in "abcdef"})
    hall = Run({"a": [("send", letter, "b") for letter in "vwxyz"], "b": [("take", letter) for letter in "zyxwv"]})
    lanes = Run({**{party: [("send", party, other)] for party, other in zip("abcd", "efgh")},
                 **{other: [("take", party)] for party, other in zip("abcd", "efgh")}})
    return [round_about(5), lie, hall, lanes, *[Run(chance_rows(chance, 2 + k, 5)) for k in range(5)]]


class Case(unittest.TestCase):
    def in_time(self, function, *arguments):
        """What a call returns, if it does within some seconds."""
        begun = time.monotonic()
        outcome = function(*arguments)
        self.assertLess(time.monotonic() - begun, SECONDS, function.__name__)
        return outcome


class Limits(Case):
    def test_runs_of_thirty_letters(self):
        for run in thirty():
            letters, parties = run.letters(), run.parties()
            self.assertEqual(len(letters), 30)
            self.assertEqual(self.in_time(Run, run.rows()), run)
            self.assertTrue(self.in_time(runs.is_rows, run.rows()))
            for letter in letters:
                for function in (runs.sender_of, runs.receiver_of, runs.lies):
                    self.in_time(function, run, letter)
            self.assertEqual(self.in_time(runs.lying, run), [])
            self.assertEqual(sum(len(self.in_time(runs.lane, run, one, other))
                                 for one in parties for other in parties if one != other), 30)
            some = self.in_time(runs.kept, run, letters[::2])
            self.assertTrue(self.in_time(runs.is_kept_of, some, run))
            self.in_time(runs.called, run, dict(zip(letters, letters[::-1])))
            self.in_time(runs.moved, run, dict(zip(parties, parties[::-1])))
            self.assertEqual(self.in_time(runs.busy, run), runs.busy(run))
            self.assertEqual(self.in_time(runs.named, some).letters(), list("abcdefghijklmno"))
            self.assertTrue(self.in_time(runs.are_alike, some, runs.named(some)))
            self.assertEqual(self.in_time(runs.turned_back, self.in_time(runs.turned_back, run)), run)

    def test_runs_of_eight_letters(self):
        chance = random.Random(3)
        made = [round_about(8), pairs(), all_lie(), *[Run(chance_rows(chance, 8, 8)) for _ in range(3)]]
        for run in made:
            known = self.in_time(ahead.events, run)
            for event in known:
                self.in_time(ahead.all_ahead, run, event)
                self.in_time(ahead.all_beside, run, event)
                self.in_time(ahead.is_ahead, run, known[0], event)
                self.in_time(ahead.are_beside, run, known[0], event)
            for party in run.parties():
                self.in_time(ahead.heard_of, run, party)
            fronts = self.in_time(ahead.fronts, run)
            self.assertEqual(self.in_time(ahead.many_fronts, run), len(fronts))
            for front in fronts[::len(fronts) // 20 + 1]:
                self.assertTrue(self.in_time(ahead.is_front, run, front))
                self.assertEqual(self.in_time(ahead.least_front, run, front), front)
                self.in_time(ahead.may_come, run, front)

    def test_lines_of_eight_letters(self):
        for run in (round_about(8), pairs(), all_lie()):
            many = self.in_time(lines.many_lines, run)
            first, last = self.in_time(lines.first_line, run), self.in_time(lines.line_at, run, many - 1)
            self.assertEqual(self.in_time(lines.line_at, run, 0), first)
            for number in (0, 1, many // 2, many - 1):
                line = self.in_time(lines.line_at, run, number)
                self.assertTrue(self.in_time(lines.is_line, run, line))
                self.assertEqual(self.in_time(lines.number_of, run, line), number)
                self.in_time(lines.lying_along, run, line)
            self.assertGreater(self.in_time(lines.apart, run, first, last), 0)
            place = next(k for k in range(len(last)) if ahead.are_beside(run, last[k], last[k + 1]))
            self.in_time(lines.swapped, run, last, place)

    def test_many_lines_of_eight_letters(self):
        self.assertEqual(lines.many_lines(all_lie()), 40320)
        # the four events of each pair come in one order, so only the pairs are mixed
        self.assertEqual(lines.many_lines(pairs()), math.factorial(16) // math.factorial(4) ** 4)

    def test_kinds_and_rings(self):
        for run in [*full(), crown(9), detour(8), crossing(4)]:
            moments, events = self.in_time(rings.moments, run), ahead.events(run)
            first = lines.first_line(run)
            found = self.in_time(kinds.kinds_of, run)
            self.assertEqual(self.in_time(kinds.least_kind, run), found[-1] if found else None)
            self.assertIn(self.in_time(kinds.kinds_kept, run, run.letters()[1:])[:len(found)], [found])
            for kind in KINDS:
                self.assertIs(self.in_time(kinds.is_of, run, kind), kind in found)
                self.assertIs(self.in_time(kinds.serves, run, kind, first),
                              self.in_time(kinds.out_of_order, run, kind, first) == [])
                self.in_time(rings.arrows_of, run, kind)
                self.in_time(rings.goes_to, run, kind, moments[0])
                line, ring = self.in_time(kinds.line_for, run, kind), self.in_time(rings.ring_for, run, kind)
                least = self.in_time(rings.least_ring, run, kind)
                if kind in found:
                    self.assertIs(self.in_time(kinds.is_line_for, run, kind, line), True)
                    self.in_time(kinds.always_ahead, run, kind, events[0], events[-1])
                    self.assertEqual([ring, least], [None, None])
                else:
                    self.assertIs(self.in_time(rings.is_ring_for, run, kind, ring), True)
                    self.assertEqual([line, least], [None, len(ring)])
            reasons = self.in_time(rings.reasons_for, run)
            if reasons is not None:
                self.assertIs(self.in_time(rings.are_reasons, run, reasons), True)

    def test_lines_counted_by_kinds(self):
        for run in full():
            for kind in KINDS:
                many = self.in_time(kinds.many_lines_for, run, kind)
                self.assertIs(many > 0, kinds.is_of(run, kind))
        # the sends may come in any order, and the takes come as the sends
        self.assertEqual(kinds.many_lines_for(all_lie(), "belt"), 40320)
        self.assertEqual(kinds.many_lines_for(round_about(8), "lanes"), lines.many_lines(round_about(8)))

    def test_makes(self):
        for many in range(2, 26):
            for make, letters in ((crown, many), (detour, many + 1), (crossing, 2 * many)):
                self.assertEqual(len(self.in_time(make, many).letters()), letters)

    def test_primes(self):
        chance = random.Random(17)
        apart = Run({**{party: [("send", party, other)] for party, other in zip("abcd", "efgh")},
                     **{other: [("take", party)] for party, other in zip("abcd", "efgh")}})
        for run in [crown(8), apart, products.power(apart, 2), chain(8),
                    *[Run(chance_taken(chance, 8, 8)) for _ in range(8)]]:
            letters, lots = run.letters(), self.in_time(primes.lots_of, run)
            parts = self.in_time(primes.primes_of, run)
            self.assertIs(self.in_time(primes.are_primes, run, parts), True)
            self.assertIs(self.in_time(primes.is_prime, run), len(lots) == 1)
            self.assertEqual(self.in_time(primes.longest_prime, run), max(map(len, lots)))
            self.assertIs(self.in_time(primes.are_together, run, letters[0], letters[-1]),
                          any(letters[0] in lot and letters[-1] in lot for lot in lots))
            self.assertEqual(len(self.in_time(primes.prime_kinds, run)), len(lots))
            self.assertLess(len(self.in_time(primes.web_of, run)), 64)
            self.assertGreater(self.in_time(primes.many_orders, run), 0)
            whole = self.in_time(primes.behind, run, runs.called(run, {word: "t" + word for word in letters}))
            self.assertEqual(len(whole.letters()), 2 * len(letters))

    def test_products(self):
        chance = random.Random(19)
        made = [crown(8), crown(4), chain(8), *[Run(chance_taken(chance, 8, 8)) for _ in range(4)]]
        for one in made:
            for other in made:
                start = self.in_time(products.common_start, one, other)
                self.assertIs(self.in_time(products.is_start_of, start, other), True)
                self.in_time(products.rest_behind, start, other)
                self.in_time(products.common_whole, one, other)
                self.assertIs(self.in_time(products.commute, one, other),
                              self.in_time(products.commute, other, one))
            self.assertEqual(self.in_time(products.root_of, one)[1], 8 if one == chain(8) else 1)

    def test_powers_of_twenty_six_letters(self):
        for run, many in ((chain(1), 26), (crown(2), 13), (crown(13), 2), (crown(8), 3), (chain(26), 1)):
            whole, letters = self.in_time(products.power, run, many), len(run.letters())
            self.assertEqual(len(whole.letters()), many * letters)
            root = (run, many) if many > 1 else (chain(1), 26)
            self.assertEqual(self.in_time(products.root_of, whole), (runs.named(root[0]), root[1]))
            self.assertIs(self.in_time(products.is_start_of, run, whole), True)
            self.assertEqual(len(self.in_time(products.rest_behind, run, whole).letters()), (many - 1) * letters)
            self.assertIs(self.in_time(products.commute, run, whole), True)
            self.assertEqual(self.in_time(products.common_start, whole, run), runs.named(run))
            self.assertEqual(self.in_time(products.common_whole, whole, run), whole)

    def test_slots(self):
        for run in full():
            lanes, first = self.in_time(slots.lanes_of, run), lines.first_line(run)
            self.assertEqual(list(self.in_time(slots.lying_in, run, first)), lanes)
            for lane in lanes:
                self.in_time(slots.least_of_lane, run, lane)
            leasts = self.in_time(slots.lane_leasts, run)
            for some in (leasts, {lane: 1 for lane in lanes}, {lane: 8 for lane in lanes}):
                goes = self.in_time(slots.goes_with, run, some)
                self.in_time(slots.arrows_with, run, some)
                line, ring = self.in_time(slots.line_with, run, some), self.in_time(slots.ring_with, run, some)
                self.assertEqual([line is not None, ring is None], [goes, goes])
                self.assertIs(self.in_time(slots.is_line_with, run, some, line), goes)
                self.assertIs(self.in_time(slots.is_ring_with, run, some, ring), not goes)
                self.in_time(slots.is_least_slots, run, some)
            fewest, line = self.in_time(slots.fewest_lying, run), self.in_time(slots.fewest_line, run)
            self.assertEqual(max(lines.lying_along(run, line)), fewest)
            self.assertIs(self.in_time(slots.is_fewest_line, run, line), True)

    def test_least_slots_of_five_letters(self):
        for run in small():
            for some in self.in_time(slots.least_slots, run):
                self.assertIs(self.in_time(slots.is_least_slots, run, some), True)

    def test_rounds(self):
        chance = random.Random(62)
        for run in [crown(8), round_about(8), pairs(), chain(8), *[Run(chance_taken(chance, 8, 8)) for _ in range(4)],
                    *[Run(chance_taken(chance, 2, 8)) for _ in range(4)], self.to_and_fro(8)]:
            rounds, many = self.in_time(mending.rounds_of, run), self.in_time(mending.fewest_rounds, run)
            delay, bars = self.in_time(mending.delay_of, run), self.in_time(mending.bars_rounds, run)
            gaps = self.in_time(mending.round_gaps, run)
            self.assertIs(self.in_time(mending.is_volley, run), gaps == [])
            self.assertIs(rounds is None, bars != [])
            if rounds is not None:
                self.assertIs(self.in_time(mending.are_rounds, run, rounds), True)
                self.assertIs(self.in_time(mending.is_delay, run, many - 1, delay), True)
        self.assertEqual(len(rounds), 8)

    def to_and_fro(self, many):
        """A run of two parties, in which each letter answers the one before it."""
        rows = {"p": [], "q": []}
        for k in range(many):
            sender, receiver = "pq"[k % 2], "qp"[k % 2]
            rows[sender].append(("send", PARTIES[k], receiver))
            rows[receiver].append(("take", PARTIES[k]))
        return Run(rows)

    def test_cores(self):
        for run in full():
            for kind in KINDS:
                core = self.in_time(mending.any_core, run, kind)
                self.assertIs(self.in_time(mending.is_core, run, kind, core), not kinds.is_of(run, kind))
                self.in_time(mending.is_left_out, run, kind, run.letters())
        for run in small():
            for kind in KINDS:
                found = self.in_time(mending.cores, run, kind)
                outs, kept = self.in_time(mending.left_out, run, kind), self.in_time(mending.most_kept, run, kind)
                fewest = self.in_time(mending.fewest_left_out, run, kind)
                self.assertEqual(len(kept[0]) + fewest, len(run.letters()))
                self.assertIn(fewest, map(len, outs))
                self.assertEqual(sum(self.in_time(mending.blamed, run, kind).values()), sum(map(len, found)))

    def test_logs(self):
        for seed in range(6):
            log = self.log_of_chance(seed, (2, 3, 8)[seed % 3], 26)
            self.assertIs(self.in_time(logs.is_log, log), True)
            run = self.in_time(logs.lanes_run, log)
            self.assertIs(self.in_time(logs.fits, log, run), True)
            self.assertEqual(self.in_time(logs.log_of, run), log)
            self.assertEqual(self.in_time(logs.waits_at, log), {})
            self.assertEqual(self.in_time(logs.done_of, log), {party: len(log[party]) for party in sorted(log)})
            self.assertIn(self.in_time(logs.kind_of_log, log), KINDS)
            self.assertIs(self.in_time(logs.same_log, run, run), True)
        log = {"p": [("to", "q")] * 26, "q": [("from", "p")] * 60}
        self.assertEqual(self.in_time(logs.waits_at, log), {"q": ("from", "p")})
        for run in full():
            line = lines.first_line(run)
            self.assertEqual(len(self.in_time(logs.marks_along, run, line)), len(line))
        hall = Run({"a": [("send", letter, "b") for letter in "stuvwxyz"], "b": [("take", letter) for letter in "zyxw"]})
        self.assertIs(self.in_time(logs.same_log, hall, self.in_time(logs.changed_about, hall, "s", "z")), True)

    def test_runs_that_fit_logs_of_five_marks(self):
        for run in small():
            log = logs.log_of(run)
            self.assertEqual(self.in_time(logs.many_fitting, log), len(self.in_time(logs.fitting, log)))
        log = {"p": [("to", "q")] * 5, "q": [("from", "p")] * 5}
        self.assertEqual(self.in_time(logs.many_fitting, log), 120)
        log["q"] = [("from", "p")] * 60
        self.assertEqual(self.in_time(logs.fitting, log), [])

    def log_of_chance(self, seed, parties, many):
        """A log with so many marks "to", all of which come to their ends."""
        chance, names = random.Random(seed), list(PARTIES[:parties])
        log, lying, sent = {name: [] for name in names}, [], 0
        while sent < many or lying:
            if sent < many and (not lying or chance.random() < 0.5):
                sender, receiver = chance.sample(names, 2)
                log[sender].append(("to", receiver))
                lying.append((sender, receiver))
                sent += 1
            else:
                sender, receiver = lying.pop(chance.randrange(len(lying)))
                log[receiver].append(("from", sender))
        return log

    def test_posts(self):
        for run in full():
            line = lines.first_line(run)
            served = self.in_time(posts.served_by, run, line)
            for kind in KINDS:
                self.assertIs(self.in_time(posts.passes, run, kind, line), kind in served)
                self.in_time(posts.stops_at, run, kind, line)

    def test_lists_of_sixty_runs(self):
        made = full()
        for runs_told in ([made[k % len(made)] for k in range(60)], [crown(8)] * 60, [chain(8)] * 60):
            least = self.in_time(posts.least_carrying, runs_told)
            for kind in KINDS:
                place = self.in_time(posts.barred_by, runs_told, kind)
                self.assertTrue(place is not None or least is not None)
                self.in_time(posts.parted_by, runs_told, kind, "belt")

    def test_plans(self):
        chance, names = random.Random(83), list("abcdef")
        every = {name: names for name in names}
        for parties in (2, 3, 8):
            pieces = {name: Run(chance_taken(chance, parties, 4)) for name in names}
            plan = self.in_time(plans.Plan, pieces, every, names, names)
            self.assertEqual(self.in_time(plans.many_ways, plan, 60), 6 ** 60)
            self.assertEqual(len(self.in_time(plans.ways_within, plan, 4)), 6 + 6 ** 2 + 6 ** 3 + 6 ** 4)
            self.assertLessEqual(len(self.in_time(plans.runs_within, plan, 4)), 1554)
            self.assertEqual([self.in_time(plans.on_ways, plan), self.in_time(plans.endless, plan)], [names, True])
            self.in_time(plans.alike_pieces, plan)
            least = self.in_time(plans.least_kind_of, plan)
            for kind in KINDS:
                self.assertIs(self.in_time(plans.is_plan_of, plan, kind), self.in_time(plans.bad_way, plan, kind) is None)
            self.assertIs(least is None, not plans.is_plan_of(plan, "lanes"))
            way = names[:6]
            self.assertIs(self.in_time(plans.is_way, plan, way * 4), True)
            self.assertEqual(len(self.in_time(plans.run_of_way, plan, way).letters()), 24)
            text = self.in_time(papers.plan_text, plan)
            self.assertEqual(self.in_time(papers.read_plan, text), plan)
        one = plans.Plan({"a": chain(1)}, {"a": ["a"]}, ["a"], ["a"])
        self.assertEqual(len(self.in_time(plans.run_of_way, one, ["a"] * 26).letters()), 26)

    def test_desks_of_a_hundred_commands(self):
        held = desk.Desk()
        for _ in range(3):
            for k in range(8):
                self.in_time(held.send, PARTIES[k], PARTIES[k], PARTIES[k - 1])
            for kind in KINDS:
                self.in_time(held.free, kind)
            self.in_time(held.hold, "belt")
            for k in range(8):
                self.in_time(held.take, PARTIES[k])
                self.in_time(held.kind)
            for k in range(8):
                self.in_time(held.drop, PARTIES[k])
            self.in_time(held.put, crown(8))
            for k in range(7):
                self.in_time(held.drop, PARTIES[k])
            self.in_time(held.drop, "h")
        record = self.in_time(held.record)
        self.assertEqual(len(record), 102)
        again = self.in_time(desk.replayed, desk.Desk(), record[:100])
        for _ in range(100):
            self.in_time(again.undo)
        self.assertEqual(again.run(), Run({}))
        for _ in range(100):
            self.in_time(again.redo)
        self.assertEqual([again.record(), self.in_time(again.copy).record()], [record[:100]] * 2)

    def test_blocks_ten_deep(self):
        held = desk.Desk()
        held.put(crown(8))

        def further(one, depth=1):
            one.drop(PARTIES[depth - 1])
            return one.attempt(lambda two: further(two, depth + 1)) if depth < 8 else one.run().letters()
        self.assertEqual(self.in_time(held.attempt, further), [])
        self.assertEqual(held.run(), crown(8))

    def test_scripts(self):
        script = [("put", crown(8)), ("hold", "belt"), ("drop", "a"), ("undo",), ("free", "belt"), ("kind",)]
        script += [("try", [("drop", "b"), ("try", [("drop", "c"), ("try", [("undo",), ("try", [("lying",)])])])])]
        said = self.in_time(scripts.play, desk.Desk(), script)
        self.assertEqual([said[0], said[-2]], [("done",), ("told", "belt")])
        self.assertEqual(self.in_time(scripts.end_of, script), (crown(8), "belt"))
        self.assertEqual(self.in_time(scripts.shortened, script), script[:4])
        sends = [("send", PARTIES[k], PARTIES[k], PARTIES[k - 1]) for k in range(8)]
        script = [*sends, ("hold", "lanes"), ("take", "a"), ("kind",), ("try", [])]
        self.assertEqual(self.in_time(scripts.shortened, script), script[:10])
        text = self.in_time(scripts.script_text, script)
        self.assertEqual(self.in_time(scripts.read_script, text), script)

    def test_texts_of_two_hundred_and_fifty_lines(self):
        names = [head + tail + last for head in "xyz" for tail in "abcdefghij" for last in "klmnopqrst"][:250]
        # four hundred signs a line
        rows = {name: [("send", f"{name}{sign}", names[k - 1]) for sign in "abcdefghijklmnopqrstuvwxyzabcdef"[:26]]
                for k, name in enumerate(names)}
        run = Run(rows)
        text = self.in_time(papers.run_text, run)
        self.assertEqual([text.count("\n"), self.in_time(papers.read_run, text)], [249, run])
        self.wrong_text(papers.read_run, text + "\n")
        many = ">abcdefgh " * 39 + ">abcdefgh"
        self.assertEqual(self.in_time(papers.line_text, self.in_time(papers.read_line, many)), many)
        log = {name: [("from", names[k - 1])] * 60 for k, name in enumerate(names)}
        text = self.in_time(papers.log_text, log)
        self.assertEqual(self.in_time(papers.read_log, text), log)
        self.wrong_text(papers.read_log, text + " <q")
        plan = plans.Plan({name: Run({}) for name in names}, {name: names[:90] for name in names}, names, names)
        text = self.in_time(papers.plan_text, plan)
        self.assertEqual(self.in_time(papers.read_plan, text), plan)
        self.wrong_text(papers.read_plan, text[:-1])
        script = [("kind",), ("try", [("put", Run({name: [] for name in names[:120]})), ("try", [("undo",)] * 120)])]
        text = self.in_time(scripts.script_text, script)
        self.assertEqual(self.in_time(scripts.read_script, text), script)
        self.wrong_text(scripts.read_script, "try\n" * 250)
        self.wrong_text(scripts.read_script, "\n".join("  " * k + "try" for k in range(200)))
        self.wrong_text(scripts.read_script, ("a" * 400 + "\n") * 250)

    def wrong_text(self, reader, text):
        """A reader refuses a text, if it does within some seconds."""
        with self.assertRaises(InvalidText) as caught:
            self.in_time(reader, text)
        self.assertIs(caught.exception.value, text)


if __name__ == "__main__":
    unittest.main()
