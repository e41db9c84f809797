"""[2] over the whole program: questions of all modules, asked again, are answered the same."""

import itertools
import random
import unittest

from postways import (ahead, desk, kinds, lines, logs, mending, papers, plans, posts, primes, products, rings, runs, scripts,
                      slots)
from postways.runs import Run
from tests.calls import shown, spoil
from tests.samples import chance_rows, chance_taken
from tests.test_mending import TALK, TIED

HELD = {"p": [("send", "a", "q"), ("send", "b", "q")], "q": [("take", "b")], "r": []}


def ask_post(run):
    """What a post tells when as much of the first line came as it lets come."""
    post, ways = posts.Post("box"), logs.log_of(run)
    line = lines.first_line(run)
    for letter, word in line[:posts.stops_at(run, "box", line)]:
        if word == "send":
            post.send(letter, runs.sender_of(run, letter), runs.receiver_of(run, letter))
        else:
            post.take(letter)
    return [post.free(), post.lying(), post.line(), post.run(), post.kind(), post.copy().line(), ways]


def ask_desk(run):
    """What a desk tells on which a run was put."""
    one = desk.Desk()
    one.put(run)
    one.send("zz", "p", "q")
    one.undo()
    with one.trial():
        one.drop(run.letters()[0])
        within = one.run()
    return [one.run(), one.kind(), one.held(), one.lying(), one.free("lanes"), one.record(), within,
            one.attempt(lambda held: held.record())]


def plan_of(run):
    """A plan of what can stand in one of a run."""
    taken = runs.kept(run, [letter for letter in run.letters() if not runs.lies(run, letter)])
    return plans.Plan({"a": taken, "b": runs.kept(taken, [])}, {"a": ["a", "b"], "b": []}, ["a"], ["b"])


def last_line(run):
    return lines.line_at(run, lines.many_lines(run) - 1)


def ones(run):
    """Slots of one for each lane."""
    return {lane: 1 for lane in slots.lanes_of(run)}


SCRIPT = [("send", "zz", "p", "q"), ("try", [("take", "zz"), ("kind",)]), ("lying",), ("free", "box"), ("undo",)]

QUESTIONS = {
    "rows": lambda run: run.rows(),
    "parties": lambda run: [run.parties(), run.letters()],
    "lying": lambda run: [runs.lying(run), [runs.lies(run, letter) for letter in run.letters()]],
    "lanes": lambda run: [runs.lane(run, one, other) for one, other in itertools.permutations(run.parties(), 2)],
    "named": lambda run: [runs.named(run), runs.busy(run), runs.kept(run, run.letters()[1:])],
    "ahead": lambda run: [ahead.all_ahead(run, event) for event in ahead.events(run)],
    "beside": lambda run: [ahead.all_beside(run, event) for event in ahead.events(run)],
    "fronts": lambda run: [ahead.fronts(run), ahead.many_fronts(run)],
    "may come": lambda run: [ahead.may_come(run, front) for front in ahead.fronts(run)],
    "heard": lambda run: [ahead.heard_of(run, party) for party in run.parties()],
    "lines": lambda run: [lines.many_lines(run), lines.first_line(run), last_line(run)],
    "lying along": lambda run: lines.lying_along(run, last_line(run)),
    "apart": lambda run: lines.apart(run, lines.first_line(run), last_line(run)),
    "kinds": lambda run: [kinds.kinds_of(run), kinds.least_kind(run), kinds.kinds_kept(run, run.letters()[:1])],
    "line for": lambda run: [kinds.line_for(run, kind) for kind in kinds.KINDS],
    "many lines for": lambda run: [kinds.many_lines_for(run, kind) for kind in kinds.KINDS],
    "out of order": lambda run: [kinds.out_of_order(run, kind, last_line(run)) for kind in kinds.KINDS],
    "arrows": lambda run: [rings.arrows_of(run, kind) for kind in kinds.KINDS],
    "goes to": lambda run: [rings.goes_to(run, "belt", moment) for moment in rings.moments(run)],
    "rings": lambda run: [[rings.ring_for(run, kind), rings.least_ring(run, kind)] for kind in kinds.KINDS],
    "reasons": lambda run: rings.reasons_for(run),
    "primes": lambda run: [function(plan_of(run).pieces()["a"]) for function in (
        primes.lots_of, primes.primes_of, primes.web_of, primes.many_orders, primes.prime_kinds, primes.longest_prime)],
    "products": lambda run: [products.power(plan_of(run).pieces()["a"], 2),
                             products.common_start(plan_of(run).pieces()["a"], plan_of(run).pieces()["a"])],
    "root": lambda run: products.root_of(plan_of(run).pieces()["a"]),
    "lanes of": lambda run: [slots.lanes_of(run), slots.lying_in(run, last_line(run)), slots.lane_leasts(run)],
    "slots": lambda run: [slots.goes_with(run, ones(run)), slots.line_with(run, ones(run)),
                          slots.arrows_with(run, ones(run)), slots.ring_with(run, ones(run))],
    "least slots": lambda run: slots.least_slots(run),
    "fewest": lambda run: [slots.fewest_lying(run), slots.fewest_line(run)],
    "rounds": lambda run: [function(plan_of(run).pieces()["a"]) for function in (
        mending.rounds_of, mending.bars_rounds, mending.round_gaps, mending.delay_of, mending.is_volley)],
    "cores": lambda run: [[mending.cores(run, kind), mending.any_core(run, kind)] for kind in kinds.KINDS],
    "left out": lambda run: [mending.left_out(run, kind) for kind in kinds.KINDS],
    "most kept": lambda run: [[mending.most_kept(run, kind), mending.blamed(run, kind)] for kind in kinds.KINDS],
    "log": lambda run: [logs.log_of(run), logs.done_of(logs.log_of(run)), logs.waits_at(logs.log_of(run))],
    "fitting": lambda run: [logs.fitting(logs.log_of(run)), logs.lanes_run(logs.log_of(run))],
    "marks": lambda run: logs.marks_along(run, last_line(run)),
    "post": ask_post,
    "served": lambda run: [posts.served_by(run, last_line(run)), posts.least_carrying([run, run])],
    "plan": lambda run: [plan_of(run).pieces(), plan_of(run).ways(), plans.ways_within(plan_of(run), 3),
                         plans.bad_way(plan_of(run), "hand"), plans.on_ways(plan_of(run))],
    "runs within": lambda run: [plans.runs_within(plan_of(run), 3), plans.least_kind_of(plan_of(run))],
    "desk": ask_desk,
    "script": lambda run: [scripts.play(desk.Desk(), [("put", run), *SCRIPT]), scripts.end_of([("put", run), *SCRIPT]),
                           scripts.shortened([("put", run), *SCRIPT])],
    "script text": lambda run: scripts.read_script(scripts.script_text([("put", run), *SCRIPT])),
    "texts": lambda run: [papers.run_text(run), papers.read_run(papers.run_text(run)),
                          papers.read_line(papers.line_text(last_line(run))),
                          papers.read_log(papers.log_text(logs.log_of(run))),
                          papers.read_plan(papers.plan_text(plan_of(run)))],
}


class Again(unittest.TestCase):
    def setUp(self):
        chance = random.Random(2)
        rows = [TALK, TIED, HELD, *[chance_rows(chance, 3, 4) for _ in range(3)],
                *[chance_taken(chance, 3, 3) for _ in range(3)]]
        self.told = [(Run(some), some) for some in rows]
        self.chance = chance

    def test_there_are_forty_questions(self):
        self.assertGreaterEqual(len(QUESTIONS), 40)

    def test_the_same_answers(self):
        for run, rows in self.told:
            first = {name: shown(question(run)) for name, question in QUESTIONS.items()}
            again = Run({party: list(rows[party]) for party in list(rows)[::-1]})
            for asked in (run, again, Run(run.rows()), papers.read_run(papers.run_text(run))):
                names = list(QUESTIONS)
                self.chance.shuffle(names)
                for name in names:
                    outcome = QUESTIONS[name](asked)
                    self.assertEqual(shown(outcome), first[name], name)
                    # all that was told is changed in place
                    spoil(outcome)
                self.assertEqual(asked, run)

    def test_all_of_the_package_is_asked(self):
        asked = {name for function in QUESTIONS.values() for name in self.names_in(function.__code__)}
        for module in (ahead, kinds, lines, logs, mending, papers, plans, posts, primes, products, rings, runs, scripts, slots):
            self.assertTrue(asked & {name for name in vars(module)}, module.__name__)

    def names_in(self, code):
        """All names that a piece of code reads."""
        inner = [part for part in code.co_consts if hasattr(part, "co_names")]
        return {*code.co_names, *itertools.chain.from_iterable(self.names_in(part) for part in inner)}


if __name__ == "__main__":
    unittest.main()
