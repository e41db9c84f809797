"""[41] to [48]: runs put one behind the other, and the primes of which each run is put together."""

import itertools
import random
import unittest

from postways.errors import InvalidLetter, InvalidRun, Lies, Refused
from postways.kinds import KINDS, is_of, kinds_of, least_kind
from postways.primes import (are_primes, are_together, behind, is_prime, longest_prime, lots_of, many_orders,
                             prime_kinds, primes_of, web_of)
from postways.rings import crossing, crown, detour
from postways.runs import Run, busy, called, kept, lying, moved
from tests.calls import Call, CallCase, EachCall, call_of, odd_but
from tests.counts import closed
from tests.samples import (CROSSED, EXAMPLE, HELD, LATE, MIXED, SWAPPED, all_parts, all_runs_of_two, chance_taken,
                           example, mixed, plain_ahead, lines_by_steps, small_rows)

RUN = ("run", example, InvalidRun)
ONE = {letter: Run(rows) for letter, rows in {
    "x": {"a": [("send", "x", "b")], "b": [("take", "x")]},
    "y": {"a": [("send", "y", "c")], "c": [("take", "y")]},
    "z": {"b": [("send", "z", "c")], "c": [("take", "z")]},
}.items()}
PRIMES = [ONE["x"], ONE["z"], ONE["y"]]
OF_RUN = [
    Call(is_prime, RUN),
    Call(lots_of, RUN),
    Call(primes_of, RUN),
    Call(are_primes, RUN, ("value", lambda: list(PRIMES), None)),
    Call(web_of, RUN),
    Call(many_orders, RUN),
    Call(are_together, RUN, ("one", lambda: "x", InvalidLetter), ("other", lambda: "y", InvalidLetter)),
    Call(prime_kinds, RUN),
    Call(longest_prime, RUN),
]
CALLS = [Call(behind, ("one", example, InvalidRun), ("other", lambda: crown(3), InvalidRun)), *OF_RUN]
GOOD = {InvalidLetter: ["x"]}


class Examples(unittest.TestCase):
    def test_the_block_of_the_document(self):
        run = Run({"a": [("send", "x", "b"), ("send", "y", "c")], "b": [("take", "x"), ("send", "z", "c")],
                   "c": [("take", "z"), ("take", "y")]})
        talk = behind(behind(crown(2), called(run, {"x": "p", "y": "q", "z": "r"})),
                      moved(called(crown(2), {"a": "u", "b": "v"}), {"a": "d", "b": "e"}))
        self.assertEqual(
            [lots_of(talk), web_of(talk), many_orders(talk), prime_kinds(talk), longest_prime(talk),
             are_together(talk, "u", "v")],
            [[['a', 'b'], ['p'], ['r'], ['q'], ['u', 'v']], [(0, 1), (0, 2), (0, 3), (1, 2), (1, 3), (2, 3)], 5,
             ['belt', 'hand', 'hand', 'hand', 'belt'], 2, True])
        self.assertEqual(
            [is_prime(run), is_prime(crown(4)), primes_of(run)[0].rows(), are_primes(talk, primes_of(talk)[::-1]),
             least_kind(talk)],
            [False, True, {'a': [('send', 'x', 'b')], 'b': [('take', 'x')]}, False, 'belt'])


class Wrong(EachCall, CallCase):
    calls, good = CALLS, GOOD

    def test_nothing_is_shared_where_letters_lie(self):
        self.check_shares_nothing(Call(behind, ("one", mixed, InvalidRun), ("other", crown_of_two, InvalidRun)))

    def test_runs_in_which_a_letter_lies(self):
        for call in OF_RUN:
            for rows in (MIXED, HELD):
                run = Run(rows)
                self.check_error(call, [run, *call.good()[1:]], Lies, run)
                self.check_error(call, [run, *[None] * len(call.good()[1:])], Lies, run)

    def test_letters_of_other_runs_and_words_with_a_sign_more(self):
        call = call_of(CALLS, are_together)
        for position in (1, 2):
            self.check_wrong(call, position, ["a", "w", "xx", "x ", " x", "x\n", "X", "", ("x",), ["x"], {"x": "x"}, 0])

    def test_letters_in_common_are_refused(self):
        call = call_of(CALLS, behind)
        for one, other in ((EXAMPLE, EXAMPLE), (EXAMPLE, CROSSED), (MIXED, EXAMPLE), (CROSSED, HELD)):
            other = Run(other)
            self.check_error(call, [Run(one), other], Refused, other)
        run = example()
        self.check_error(call, [run, run], Refused, run)
        self.check_error(call, [None, run], InvalidRun, None)

    def test_lists_that_are_no_primes(self):
        again = called(ONE["y"], {"y": "w"})
        idle = Run({**ONE["y"].rows(), "q": []})
        wrongs = [tuple(PRIMES), PRIMES[:-1], PRIMES[1:], [*PRIMES, ONE["y"]], [*PRIMES[:2], ONE["x"]], PRIMES[::-1],
                  [], [example()], [*PRIMES, Run({})], [*PRIMES[:2], again], [*PRIMES[:2], idle], [ONE["x"], ONE["y"],
                  ONE["z"]], [ONE["z"], ONE["x"], ONE["y"]], [one.rows() for one in PRIMES], [*PRIMES[:2], None],
                  [*PRIMES[:2], "y"], [PRIMES], {"x": ONE["x"]}, ONE["x"], [*PRIMES[:2], kept(example(), ["y"])],
                  [None, None, None], [*PRIMES[:2], Lies(ONE["y"])], [*PRIMES[:2], True]]
        self.check_judge(call_of(CALLS, are_primes), wrongs)

    def test_the_judge_of_primes_returns_false_for_odd_objects(self):
        self.check_judge(call_of(CALLS, are_primes), odd_but())
        self.assertIs(are_primes(Run({"a": []}), []), True)
        for value in odd_but([]):
            self.assertIs(are_primes(Run({"a": []}), value), False)


def crown_of_two():
    return called(crown(2), {"a": "p", "b": "q"})


def falls_apart(run):
    """The ascending lists of letters such that what is kept of them, and behind it the others, makes the run."""
    found = []
    for letters in all_parts(run.letters())[1:-1]:
        rest = [letter for letter in run.letters() if letter not in letters]
        if behind(kept(run, letters), kept(run, rest)) == run:
            found.append(letters)
    return found


def plain_lots(run):
    """The ascending list of the lists of the letters of the primes, by all sets of letters."""
    if not run.letters():
        return []
    parts = falls_apart(run)
    if not parts:
        return [run.letters()]
    rest = [letter for letter in run.letters() if letter not in parts[0]]
    return sorted(plain_lots(kept(run, parts[0])) + plain_lots(kept(run, rest)))


def put_together(primes):
    whole = Run({})
    for prime in primes:
        whole = behind(whole, prime)
    return whole


class SmallRuns(unittest.TestCase):
    """What is returned, held against all sets of letters and all orders of the primes."""

    @classmethod
    def setUpClass(cls):
        chance = random.Random(41)
        rows = [rows for rows in small_rows() if not lying(Run(rows))]
        rows += [chance_taken(chance, 2 + k % 5, 3 + k % 3) for k in range(90)]
        cls.runs = [Run(some) for some in rows] + [run for run in all_runs_of_two() if not lying(run)]
        cls.told = [(run, plain_lots(run)) for run in cls.runs]

    def orders(self, run, lots):
        """All orders of the lots in which the primes give the run."""
        for order in itertools.permutations(lots):
            if put_together([busy(kept(run, lot)) for lot in order]) == busy(run):
                yield list(order)

    def test_primes(self):
        seen = set()
        for run, lots in self.told:
            seen.add(len(lots))
            self.assertIs(is_prime(run), bool(run.letters()) and not falls_apart(run))
            self.assertEqual(sorted(lots_of(run)), lots)
            self.assertEqual(primes_of(run), [busy(kept(run, lot)) for lot in lots_of(run)])
            self.assertEqual(longest_prime(run), max(map(len, lots), default=0))
            self.assertEqual(prime_kinds(run), [least_kind(prime) for prime in primes_of(run)])
            for one, other in itertools.product(run.letters(), repeat=2):
                self.assertIs(are_together(run, one, other), any(one in lot and other in lot for lot in lots))
        self.assertEqual(seen, set(range(6)))

    def test_their_orders(self):
        for run, lots in self.told:
            orders = list(self.orders(run, lots))
            # least letters are unlike, so the least of these lists has always the least one next that may stand there
            self.assertEqual(lots_of(run), min(orders, key=lambda order: [lot[0] for lot in order]))
            self.assertEqual(many_orders(run), len(orders))
            first = lots_of(run)
            web = [(one, other) for one, other in itertools.permutations(range(len(first)), 2)
                   if all(order.index(first[one]) < order.index(first[other]) for order in orders)]
            self.assertEqual(web_of(run), sorted(web))

    def test_all_orders_of_the_primes(self):
        told = {True: 0, False: 0}
        for run, lots in self.told:
            orders = list(self.orders(run, lots))
            for order in itertools.permutations(lots):
                told[list(order) in orders] += 1
                primes = [busy(kept(run, lot)) for lot in order]
                self.assertIs(are_primes(run, primes), list(order) in orders)
                self.assertIs(are_primes(run, tuple(primes)), False)
        self.assertGreater(min(told.values()), 100)

    def test_only_neighbours_without_a_party_in_common_are_swapped(self):
        for run, lots in self.told:
            primes = {tuple(lot): busy(kept(run, lot)) for lot in lots}
            known = [lots_of(run)]
            for order in known:
                for k in range(len(order) - 1):
                    one, other = primes[tuple(order[k])], primes[tuple(order[k + 1])]
                    if not set(one.parties()) & set(other.parties()):
                        swapped = [*order[:k], order[k + 1], order[k], *order[k + 2:]]
                        if swapped not in known:
                            known.append(swapped)
            self.assertEqual(sorted(known), sorted(self.orders(run, lots)))

    def test_letters_are_together_exactly_if_they_go_to_one_another(self):
        for run, _ in self.told[:80]:
            if len(run.letters()) < 5:
                arrows = {((letter, "take"), (letter, "send")) for letter in run.letters()}
                goes = closed((plain_ahead(lines_by_steps(run.rows())) or set()) | arrows)
                for one, other in itertools.product(run.letters(), repeat=2):
                    both = ((one, "send"), (other, "send")) in goes and ((other, "send"), (one, "send")) in goes
                    self.assertIs(are_together(run, one, other), both)

    def test_a_run_is_of_a_kind_exactly_if_each_of_its_primes_is(self):
        for run, _ in self.told:
            for kind in KINDS:
                self.assertIs(is_of(run, kind), all(is_of(prime, kind) for prime in primes_of(run)))
            self.assertIs(is_of(run, "hand"), all(len(lot) == 1 for lot in lots_of(run)))


class Behind(unittest.TestCase):
    def test_rows_stand_behind_one_another(self):
        run = behind(example(), crown_of_two())
        self.assertEqual(run.rows(), {
            "a": [("send", "x", "b"), ("send", "y", "c"), ("send", "p", "b"), ("take", "q")],
            "b": [("take", "x"), ("send", "z", "c"), ("send", "q", "a"), ("take", "p")],
            "c": [("take", "z"), ("take", "y")]})
        self.assertEqual(behind(crown_of_two(), example()).rows()["a"],
                         [("send", "p", "b"), ("take", "q"), ("send", "x", "b"), ("send", "y", "c")])

    def test_all_parties_also_idle_ones(self):
        one, other = Run({"m": [], "b": []}), Run({"k": [], "a": [("send", "x", "b")], "b": []})
        self.assertEqual(behind(one, other).rows(), {"a": [("send", "x", "b")], "b": [], "k": [], "m": []})
        self.assertEqual(behind(other, one), behind(one, other))
        self.assertEqual(behind(Run({}), Run({})), Run({}))
        self.assertEqual([behind(example(), Run({})), behind(Run({}), example())], [example(), example()])

    def test_letters_may_lie_and_stay_so(self):
        run = behind(mixed(), called(Run(HELD), {"x": "k", "y": "l"}))
        self.assertEqual(lying(run), ["c", "e", "k", "x"])
        self.assertEqual(run.rows()["c"], [("take", "a"), ("send", "e", "e"), ("take", "l")])

    def test_a_run_behind_itself_without_letters(self):
        run = Run({"a": [], "b": []})
        self.assertEqual(behind(run, run), run)


class Edges(unittest.TestCase):
    def test_runs_without_letters(self):
        for run in (Run({}), Run({"a": [], "b": []})):
            self.assertEqual([is_prime(run), lots_of(run), primes_of(run), are_primes(run, [])], [False, [], [], True])
            self.assertEqual([web_of(run), many_orders(run), prime_kinds(run), longest_prime(run)], [[], 1, [], 0])
            self.assertIs(are_primes(run, [run]), False)
            self.assertRaises(InvalidLetter, are_together, run, "x", "x")

    def test_primes_are_busy(self):
        run = Run({**EXAMPLE, "idle": []})
        self.assertEqual([prime.parties() for prime in primes_of(run)], [["a", "b"], ["b", "c"], ["a", "c"]])
        self.assertEqual([lots_of(run), web_of(run)], [[["x"], ["z"], ["y"]], [(0, 1), (0, 2), (1, 2)]])
        self.assertIs(are_primes(run, PRIMES), True)

    def test_a_letter_is_together_with_itself(self):
        for letter in "xyz":
            self.assertIs(are_together(example(), letter, letter), True)
        self.assertIs(are_together(example(), "x", "z"), False)

    def test_primes_of_no_kind(self):
        run = behind(called(Run(SWAPPED), {"x": "k", "y": "l"}), example())
        self.assertEqual([lots_of(run)[0], prime_kinds(run)], [["k", "l"], [None, "hand", "hand", "hand"]])
        self.assertEqual([longest_prime(run), kinds_of(run)], [2, []])

    def test_orders_by_least_letters(self):
        # the prime of b and z may stand first, but c does not wait for it
        rows = {"p": [("send", "c", "q")], "q": [("take", "c")], "r": [("send", "z", "s"), ("take", "b")],
                "s": [("send", "b", "r"), ("take", "z"), ("send", "a", "p")]}
        rows["p"].append(("take", "a"))
        self.assertEqual(lots_of(Run(rows)), [["b", "z"], ["c"], ["a"]])
        self.assertEqual([web_of(Run(rows)), many_orders(Run(rows))], [[(0, 2), (1, 2)], 2])

    def test_primes_over_which_a_longer_way_leads(self):
        # the first and the third prime have no party in common, but both have one with the second
        run = Run({"a": [("send", "c", "b")], "b": [("take", "c"), ("send", "b", "c")],
                   "c": [("take", "b"), ("send", "a", "d")], "d": [("take", "a")]})
        self.assertEqual([lots_of(run), web_of(run)], [[["c"], ["b"], ["a"]], [(0, 1), (0, 2), (1, 2)]])
        self.assertEqual([many_orders(run), are_primes(run, primes_of(run)[::-1])], [1, False])

    def test_makes(self):
        for many in (2, 3, 4):
            self.assertEqual([is_prime(crown(many)), lots_of(crown(many))], [True, [crown(many).letters()]])
            self.assertEqual([longest_prime(detour(many)), many_orders(crossing(many))], [many + 1, 1])
        self.assertEqual(prime_kinds(Run(LATE)), ["lanes"])


if __name__ == "__main__":
    unittest.main()
