"""[5]: the errors, of what they are made and what they keep; [1], [2]: names as the interface lists them."""

import inspect
import unittest

from postways import (ahead, desk, errors, kinds, lines, logs, mending, papers, plans, posts, primes, products, rings, runs,
                      scripts, slots)
from tests.samples import odd_objects

WITH_VALUE = """InvalidRows InvalidRun InvalidLetter InvalidLetters InvalidParty InvalidNames InvalidEvent
InvalidEvents InvalidFront InvalidLine InvalidNumber InvalidKind InvalidPlace InvalidMake InvalidLane InvalidSlots
InvalidLog InvalidRuns InvalidPieces InvalidWays InvalidPlan InvalidWay InvalidDesk InvalidRecord InvalidScript
InvalidText Lies Refused""".split()
WITHOUT = ["NothingToUndo", "NothingToRedo"]

FUNCTIONS = {
    runs: """is_rows(value) sender_of(run,letter) receiver_of(run,letter) lies(run,letter) lying(run)
        lane(run,party,other) kept(run,letters) is_kept_of(one,other) called(run,names) moved(run,names) named(run)
        busy(run) are_alike(one,other) turned_back(run)""",
    ahead: """events(run) is_ahead(run,one,other) all_ahead(run,event) are_beside(run,one,other)
        all_beside(run,event) is_front(run,value) fronts(run) many_fronts(run) least_front(run,events)
        may_come(run,front) heard_of(run,party)""",
    lines: """is_line(run,value) many_lines(run) first_line(run) line_at(run,number) number_of(run,line)
        lying_along(run,line) apart(run,one,other) swapped(run,line,place)""",
    kinds: """serves(run,kind,line) out_of_order(run,kind,line) is_of(run,kind) kinds_of(run) least_kind(run)
        line_for(run,kind) is_line_for(run,kind,value) many_lines_for(run,kind) always_ahead(run,kind,one,other)
        kinds_kept(run,letters)""",
    rings: """moments(run) arrows_of(run,kind) goes_to(run,kind,moment) ring_for(run,kind) is_ring_for(run,kind,value)
        least_ring(run,kind) reasons_for(run) are_reasons(run,value) crown(many) detour(many) crossing(many)""",
    primes: """behind(one,other) is_prime(run) lots_of(run) primes_of(run) are_primes(run,value) web_of(run)
        many_orders(run) are_together(run,one,other) prime_kinds(run) longest_prime(run)""",
    products: """is_start_of(one,run) rest_behind(one,run) common_start(one,other) common_whole(one,other)
        commute(one,other) power(run,many) root_of(run)""",
    slots: """lanes_of(run) lying_in(run,line) goes_with(run,slots) line_with(run,slots) is_line_with(run,slots,value)
        arrows_with(run,slots) ring_with(run,slots) is_ring_with(run,slots,value) least_of_lane(run,lane)
        lane_leasts(run) least_slots(run) is_least_slots(run,value) fewest_lying(run) fewest_line(run)
        is_fewest_line(run,value)""",
    mending: """is_volley(run) rounds_of(run) fewest_rounds(run) are_rounds(run,value) bars_rounds(run) round_gaps(run)
        delay_of(run) is_delay(run,number,value) cores(run,kind) any_core(run,kind) is_core(run,kind,value)
        left_out(run,kind) is_left_out(run,kind,value) fewest_left_out(run,kind) most_kept(run,kind)
        blamed(run,kind)""",
    logs: """is_log(value) log_of(run) fits(log,run) fitting(log) many_fitting(log) lanes_run(log) marks_along(run,line)
        done_of(log) waits_at(log) kind_of_log(log) same_log(one,other) changed_about(run,letter,other)""",
    posts: """passes(run,kind,line) stops_at(run,kind,line) served_by(run,line) least_carrying(runs)
        barred_by(runs,kind) parted_by(runs,kind,other)""",
    plans: """is_way(plan,value) run_of_way(plan,way) on_ways(plan) ways_within(plan,number) many_ways(plan,number)
        is_plan_of(plan,kind) bad_way(plan,kind) least_kind_of(plan) runs_within(plan,number) alike_pieces(plan)
        endless(plan)""",
    desk: "replayed(desk,record)",
    scripts: "play(desk,script) end_of(script) shortened(script) script_text(script) read_script(text)",
    papers: """run_text(run) read_run(text) line_text(line) read_line(text) log_text(log) read_log(text) plan_text(plan)
        read_plan(text)""",
}
CLASSES = {
    runs.Run: """(rows) rows() parties() letters()""",
    posts.Post: """(kind) send(letter,sender,receiver) take(letter) free() lying() line() run() kind() copy()""",
    plans.Plan: """(pieces,ways,firsts,lasts) pieces() ways() firsts() lasts()""",
    desk.Desk: """() send(letter,sender,receiver) take(letter) drop(letter) put(run) hold(kind) run() kind() held() lying()
        free(kind) trial() attempt(action) copy() undo() redo() record()""",
}


class Errors(unittest.TestCase):
    def test_all_derive_from_the_base_and_from_no_other_one(self):
        self.assertEqual(errors.PostError.__bases__, (ValueError,))
        for name in WITH_VALUE + WITHOUT:
            error = getattr(errors, name)
            self.assertEqual(error.__bases__, (errors.PostError,), name)
            self.assertEqual((error.__name__, error.__module__), (name, "postways.errors"))

    def test_there_are_no_others(self):
        found = [name for name, _ in inspect.getmembers(errors, inspect.isclass)]
        self.assertEqual(found, sorted(WITH_VALUE + WITHOUT + ["PostError"]))

    def test_the_very_value_is_kept(self):
        for name in WITH_VALUE:
            error = getattr(errors, name)
            for value in odd_objects():
                self.assertIs(error(value).value, value)
                self.assertIs(error(value=value).value, value)
            self.assertIsNone(error().value)
            self.assertRaises(TypeError, error, 1, 2)

    def test_three_are_made_of_nothing(self):
        for error in (errors.PostError, errors.NothingToUndo, errors.NothingToRedo):
            self.assertFalse(hasattr(error(), "value"))
            self.assertRaises(TypeError, error, 1)

    def test_they_are_caught_by_their_bases(self):
        for name in WITH_VALUE + WITHOUT:
            for base in (ValueError, errors.PostError, getattr(errors, name)):
                with self.assertRaises(base):
                    raise getattr(errors, name)()


class Names(unittest.TestCase):
    def test_the_kinds_stand_in_their_module(self):
        self.assertEqual(kinds.KINDS, ("lanes", "causal", "box", "outbox", "belt", "hand"))

    def test_functions_stand_in_their_modules_with_their_parameters(self):
        for module, text in FUNCTIONS.items():
            for entry in text.split():
                name, _, parameters = entry.rstrip(")").partition("(")
                function = getattr(module, name)
                self.assertTrue(inspect.isfunction(function), name)
                self.assertEqual(function.__module__, module.__name__)
                self.assertEqual(list(inspect.signature(function).parameters), parameters.split(","), name)

    def test_classes_have_their_methods_themselves(self):
        for one, text in CLASSES.items():
            for entry in text.split():
                name, _, parameters = entry.rstrip(")").partition("(")
                function = vars(one)[name or "__init__"]
                self.assertTrue(inspect.isfunction(function), name)
                self.assertEqual(list(inspect.signature(function).parameters), ["self", *filter(None, parameters.split(","))])
        for module, one in ((runs, runs.Run), (posts, posts.Post), (plans, plans.Plan), (desk, desk.Desk)):
            self.assertEqual(one.__module__, module.__name__)


if __name__ == "__main__":
    unittest.main()
