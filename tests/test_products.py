"""[49] to [55]: starts, what is behind them, common starts and wholes, powers and roots, all of it up to names."""

import itertools
import random
import unittest

from postways.errors import InvalidNumber, InvalidRun, Lies, Refused
from postways.primes import behind, primes_of
from postways.products import common_start, common_whole, commute, is_start_of, power, rest_behind, root_of
from postways.rings import crown
from postways.runs import Run, are_alike, busy, called, kept, moved, named
from tests.calls import Call, CallCase, EachCall, call_of
from tests.samples import EXAMPLE, HELD, MIXED, all_parts, chain, chance_taken, example

PING = {"a": [("send", "x", "b")], "b": [("take", "x")]}
PONG = {"a": [("take", "x")], "b": [("send", "x", "a")]}
BOTH = {"a": [("send", "x", "b"), ("take", "y")], "b": [("send", "y", "a"), ("take", "x")]}
AWAY = {"c": [("send", "x", "d")], "d": [("take", "x")]}
OVER = {"b": [("send", "x", "c")], "c": [("take", "x")]}
PIECES = [PING, PONG, BOTH, AWAY, OVER]


def fresh(run, sign):
    """The run with its letters called otherwise, by a sign ahead of them."""
    return called(run, {letter: sign + letter for letter in run.letters()})


def of(*pieces):
    """The run of pieces one behind the other; the letters stand in another order than they are sent."""
    whole, signs = Run({}), list("fbgdaeckh")
    for rows in pieces:
        whole = behind(whole, fresh(Run(rows), signs.pop()))
    return whole


TWO = {"one": lambda: of(PING, AWAY), "other": lambda: of(PING, OVER)}
ONE, OTHER = [(name, make, InvalidRun) for name, make in TWO.items()]
CALLS = [
    Call(is_start_of, ("one", lambda: Run(PING), InvalidRun), ("run", example, InvalidRun)),
    Call(rest_behind, ("one", lambda: Run(PING), InvalidRun), ("run", example, InvalidRun)),
    Call(common_start, ONE, OTHER),
    Call(common_whole, ONE, OTHER),
    Call(commute, ONE, OTHER),
    Call(power, ("run", example, InvalidRun), ("many", lambda: 3, InvalidNumber)),
    Call(root_of, ("run", lambda: of(PING, PONG, PING, PONG), InvalidRun)),
]
GOOD = {InvalidNumber: [0, 1, 2, 7, 10 ** 29]}


class Examples(unittest.TestCase):
    def test_the_block_of_the_document(self):
        run = Run({"a": [("send", "x", "b"), ("send", "y", "c")], "b": [("take", "x"), ("send", "z", "c")],
                   "c": [("take", "z"), ("take", "y")]})
        talk = behind(behind(crown(2), called(run, {"x": "p", "y": "q", "z": "r"})),
                      moved(called(crown(2), {"a": "u", "b": "v"}), {"a": "d", "b": "e"}))
        ping = Run({"a": [("send", "x", "b")], "b": [("take", "x")]})
        pong = Run({"a": [("take", "x")], "b": [("send", "x", "a")]})
        self.assertEqual(
            [is_start_of(ping, talk),
             are_alike(rest_behind(crown(2), behind(crown(2), called(ping, {"x": "q"}))), ping),
             commute(ping, pong), commute(ping, power(ping, 3))],
            [False, True, False, True])
        twice = power(behind(ping, called(pong, {"x": "y"})), 2)
        self.assertEqual(
            [[root_of(twice)[0].letters(), root_of(twice)[1]], common_start(twice, power(ping, 2)).letters(),
             common_whole(twice, power(ping, 2)), common_whole(ping, moved(ping, {"a": "c", "b": "d"})).parties()],
            [[['a', 'b'], 2], ['a'], None, ['a', 'b', 'c', 'd']])


class Wrong(EachCall, CallCase):
    calls, good = CALLS, GOOD

    def test_runs_in_which_a_letter_lies(self):
        for call in CALLS:
            good = call.good()
            for rows in (MIXED, HELD):
                run, other = Run(rows), Run(HELD)
                self.check_error(call, [run, *good[1:]], Lies, run)
                self.check_error(call, [run, *[None] * len(good[1:])], Lies, run)
                if call.errors[1:] == [InvalidRun]:
                    # errors of the first run come ahead of those of the second one
                    self.check_error(call, [good[0], run], Lies, run)
                    self.check_error(call, [None, run], InvalidRun, None)
                    self.check_error(call, [other, run], Lies, other)

    def test_numbers_that_are_no_counts(self):
        call = call_of(CALLS, power)
        wrongs = [-1, -2, -10 ** 29, True, False, None, "2", [2], (2,), {2: 2}, Run({}), InvalidNumber(2)]
        self.check_wrong(call, 1, wrongs)
        for wrong in wrongs:
            for run in (Run({}), chain(27)):
                self.check_error(call, [run, wrong], InvalidNumber, wrong)

    def test_what_is_no_start_is_refused(self):
        call = call_of(CALLS, rest_behind)
        for one, run in ((PONG, EXAMPLE), (OVER, EXAMPLE), (EXAMPLE, PING), (AWAY, EXAMPLE), (BOTH, PING)):
            one = Run(one)
            self.assertIs(is_start_of(one, Run(run)), False)
            self.check_error(call, [one, Run(run)], Refused, one)
            self.check_error(call, [one, None], InvalidRun, None)

    def test_roots_of_runs_without_letters_are_refused(self):
        for run in (Run({}), Run({"a": [], "b": []})):
            self.check_error(call_of(CALLS, root_of), [run], Refused, run)

    def test_runs_of_too_many_letters_are_refused(self):
        ping, none, long, longer = Run(PING), Run({}), chain(26), chain(27)
        for run, many in ((ping, 27), (longer, 1), (longer, 2), (long, 2), (example(), 9), (ping, 10 ** 29)):
            self.check_error(call_of(CALLS, power), [run, many], Refused, run)
        for one, run in ((none, longer), (ping, chain(28))):
            self.check_error(call_of(CALLS, rest_behind), [one, run], Refused, one)
        for one, other in ((longer, chain(28)), (chain(28), longer)):
            self.check_error(call_of(CALLS, common_start), [one, other], Refused, one)
        for one, other in ((longer, none), (none, longer), (ping, longer), (long, Run(AWAY)), (Run(AWAY), long)):
            self.check_error(call_of(CALLS, common_whole), [one, other], Refused, one)
        run = behind(longer, Run(AWAY))
        self.check_error(call_of(CALLS, root_of), [run], Refused, run)

    def test_just_twenty_six_letters(self):
        long, ping, away = chain(26), Run(PING), Run(AWAY)
        self.assertEqual([power(ping, 26), power(long, 1)], [named(long)] * 2)
        self.assertEqual([power(long, 0), power(chain(27), 0)], [Run({})] * 2)
        self.assertEqual([rest_behind(ping, chain(27)), common_start(chain(27), long)], [named(long)] * 2)
        self.assertEqual(common_start(chain(30), example()), named(ping))
        self.assertEqual(common_whole(chain(25), away).letters(), list("abcdefghijklmnopqrstuvwxyz"))
        self.assertEqual(root_of(chain(30)), (named(ping), 30))
        # no run is returned here that could have too many letters
        self.assertIs(common_whole(chain(27), Run(PONG)), None)
        self.assertIs(is_start_of(chain(27), chain(28)), True)
        self.assertIs(commute(chain(27), chain(3)), True)


def cuts(run):
    """All ways in which a run is one run with another one behind it, by all sets of letters: tuples of both."""
    found = []
    for letters in all_parts(run.letters()):
        rest = [letter for letter in run.letters() if letter not in letters]
        first, last = kept(run, letters), kept(run, rest)
        if behind(first, last) == run:
            found.append((first, last))
    return found


def starts(run):
    """All starts, named and busy."""
    return [plain(first) for first, _ in cuts(run)]


def is_among(run, plain_runs):
    """Whether a run is alike to one of some runs that are named and busy."""
    return plain(run) in plain_runs


def plain(run):
    return busy(named(run))


def plain_power(run, many):
    whole = Run({})
    for k in range(many):
        whole = behind(whole, fresh(run, "abcdefgh"[k]))
    return whole


def plain_whole(one, other):
    """The common whole, None if there is none: the one with some letters of the other one behind it."""
    wholes = []
    for letters in all_parts(other.letters()):
        whole = behind(fresh(one, "f"), fresh(kept(other, letters), "g"))
        begun = starts(whole)
        if is_among(other, begun):
            wholes.append((whole, begun))
    least = [whole for whole, _ in wholes if all(is_among(whole, begun) for _, begun in wholes)]
    return plain(least[0]) if least else None


def parts_without_common_party(one, other):
    """Both runs cut into parts that have no party in common: tuples of what is kept of each."""
    groups = []
    for prime in primes_of(one) + primes_of(other):
        met = [group for group in groups if set(prime.parties()) & group]
        groups = [group for group in groups if group not in met] + [set(prime.parties()).union(*met)]
    return [tuple(Run({party: row for party, row in run.rows().items() if party in group}) for run in (one, other))
            for group in groups]


def plain_roots(run):
    """The tuples (one, many) of all runs of which a run is a power, the one with fewest letters first."""
    found = []
    for part in starts(run)[1:]:
        many, left = divmod(len(run.letters()), len(part.letters()))
        if not left and are_alike(plain_power(part, many), run):
            found.append((part, many))
    return found


class SmallRuns(unittest.TestCase):
    """What is returned, held against plain counts by all sets of letters."""

    @classmethod
    def setUpClass(cls):
        chance = random.Random(51)
        words = [list(word) for many in range(3) for word in itertools.product(PIECES, repeat=many)]
        runs = [of(*word) for word in words] + [Run(chance_taken(chance, 2 + k % 3, 1 + k % 3)) for k in range(30)]
        cls.pairs = [(chance.choice(runs), chance.choice(runs)) for _ in range(250)]
        for _ in range(150):
            # so that the one has something to do with the other
            begun = [chance.choice(PIECES) for _ in range(chance.randrange(3))]
            cls.pairs.append(tuple(of(*begun, *[chance.choice(PIECES[:4]) for _ in range(chance.randrange(3))])
                                   for _ in range(2)))
        cls.runs = runs + [one for one, _ in cls.pairs[250:]]

    def test_starts_and_what_is_behind_them(self):
        told = {True: 0, False: 0}
        for one, run in self.pairs:
            rests = [last for first, last in cuts(run) if are_alike(first, one)]
            told[bool(rests)] += 1
            self.assertIs(is_start_of(one, run), bool(rests))
            if rests:
                self.assertEqual(rest_behind(one, run), plain(rests[0]))
                self.assertTrue(are_alike(behind(fresh(one, "f"), fresh(rest_behind(one, run), "g")), run))
                # there is just one
                self.assertTrue(all(are_alike(rest, rests[0]) for rest in rests))
            else:
                with self.assertRaises(Refused) as caught:
                    rest_behind(one, run)
                self.assertIs(caught.exception.value, one)
        self.assertGreater(min(told.values()), 50)

    def test_each_start_of_a_run(self):
        for run in self.runs:
            for first, last in cuts(run):
                self.assertIs(is_start_of(fresh(first, "q"), run), True)
                self.assertEqual(rest_behind(first, run), plain(last))

    def test_common_starts(self):
        lengths = set()
        for one, other in self.pairs:
            common = [start for start in starts(one) if is_among(start, starts(other))]
            whole = [start for start in common if all(is_among(some, starts(start)) for some in common)]
            self.assertEqual(common_start(one, other), plain(whole[0]))
            self.assertEqual(common_start(other, one), plain(whole[0]))
            lengths.add(len(whole[0].letters()))
        self.assertGreaterEqual(lengths, {0, 1, 2, 3})

    def test_common_wholes(self):
        told = {True: 0, False: 0}
        for one, other in self.pairs:
            if len(one.letters()) + len(other.letters()) > 5:
                continue
            whole = plain_whole(one, other)
            told[whole is not None] += 1
            self.assertEqual(common_whole(one, other), whole)
            self.assertEqual(common_whole(other, one), whole)
            start = common_start(one, other)
            parties = [set(rest_behind(start, run).parties()) for run in (one, other)]
            self.assertIs(whole is not None, not parties[0] & parties[1])
        self.assertGreater(min(told.values()), 50)

    def test_what_commutes(self):
        told = {True: 0, False: 0}
        for one, other in self.pairs:
            same = are_alike(behind(fresh(one, "f"), fresh(other, "g")), behind(fresh(other, "g"), fresh(one, "f")))
            told[same] += 1
            self.assertIs(commute(one, other), same)
            self.assertIs(commute(other, one), same)
            parts = parts_without_common_party(one, other)
            self.assertIs(same, all(is_power_of_one(*pair) for pair in parts))
        self.assertGreater(min(told.values()), 50)

    def test_powers(self):
        for run in self.runs:
            for many in range(5):
                self.assertEqual(power(run, many), plain(plain_power(run, many)))

    def test_roots(self):
        seen = set()
        powers = [plain_power(run, many) for run in self.runs[::4] for many in (2, 3)]
        for run in [*powers, *self.runs[::2], of(*[AWAY] * 6)]:
            if 0 < len(run.letters()) < 7:
                roots = plain_roots(run)
                root, many = root_of(run)
                seen.add(many)
                self.assertEqual((root, many), roots[0])
                self.assertTrue(are_alike(power(root, many), run))
                # each run of which it is a power is a power of the root
                for one, number in roots:
                    self.assertEqual(power(root, many // number), one)
        self.assertGreaterEqual(seen, {1, 2, 3, 4, 6})


def is_power_of_one(one, other):
    """Whether one of two runs has no letters, or both are powers of one run."""
    if not one.letters() or not other.letters():
        return True
    return bool([root for root, _ in plain_roots(one) if root in [found for found, _ in plain_roots(other)]])


class Edges(unittest.TestCase):
    def test_runs_without_letters(self):
        none, idle = Run({}), Run({"a": [], "q": []})
        for one, other in itertools.product((none, idle), repeat=2):
            self.assertEqual([is_start_of(one, other), commute(one, other)], [True, True])
            self.assertEqual([rest_behind(one, other), common_start(one, other), common_whole(one, other)], [none] * 3)
        for many in (0, 1, 2, 27, 10 ** 29):
            self.assertEqual([power(none, many), power(idle, many)], [none, none])
        for empty in (none, idle):
            run = example()
            self.assertEqual([is_start_of(empty, run), is_start_of(run, empty)], [True, False])
            self.assertEqual([rest_behind(empty, run), common_start(empty, run), common_whole(run, empty)],
                             [named(run), none, named(run)])
            self.assertIs(commute(empty, run), True)

    def test_idle_parties_and_names_mean_nothing(self):
        one, run = Run({**PING, "idle": []}), fresh(example(), "k")
        self.assertIs(is_start_of(one, run), True)
        self.assertEqual(rest_behind(one, run).rows(), {
            "a": [("send", "a", "c")], "b": [("send", "b", "c")], "c": [("take", "b"), ("take", "a")]})
        self.assertEqual(common_start(one, run).parties(), ["a", "b"])
        self.assertEqual(common_whole(one, run), named(example()))
        self.assertEqual(power(Run({**AWAY, "a": []}), 2).rows(), {
            "c": [("send", "a", "d"), ("send", "b", "d")], "d": [("take", "a"), ("take", "b")]})
        self.assertEqual(root_of(Run({**AWAY, "a": []})), (Run({"c": [("send", "a", "d")], "d": [("take", "a")]}), 1))

    def test_powers_of_nought_and_one(self):
        for run in (example(), of(PING, PONG), crown(3)):
            self.assertEqual([power(run, 0), power(run, 1)], [Run({}), plain(run)])

    def test_a_run_is_a_start_of_itself(self):
        for run in (example(), of(PING, PONG), crown(3)):
            self.assertEqual([is_start_of(run, run), rest_behind(run, run)], [True, Run({})])
            self.assertEqual([common_start(run, run), common_whole(run, run)], [plain(run)] * 2)
            self.assertIs(commute(run, run), True)

    def test_roots_of_powers_whose_letters_stand_in_another_order(self):
        # the later letters have the lesser words
        run = Run({"a": [("send", "z", "b"), ("send", "a", "b")], "b": [("take", "z"), ("take", "a")]})
        self.assertEqual(root_of(run), (named(Run(PING)), 2))
        run = Run({"a": [("send", "y", "b"), ("take", "z"), ("send", "a", "b"), ("take", "b")],
                   "b": [("send", "z", "a"), ("take", "y"), ("send", "b", "a"), ("take", "a")]})
        self.assertEqual(root_of(run), (plain(Run(BOTH)), 2))

    def test_roots_of_parts_without_a_party_in_common(self):
        one = of(PING, AWAY)
        self.assertEqual(root_of(of(PING, PING, AWAY, AWAY)), (plain(one), 2))
        self.assertEqual(root_of(of(PING, AWAY, AWAY, PING)), (plain(one), 2))
        self.assertEqual(root_of(of(PING, PING, AWAY)), (plain(of(PING, PING, AWAY)), 1))
        self.assertEqual(root_of(of(PING, PING, AWAY, AWAY, AWAY))[1], 1)
        self.assertEqual(root_of(of(PING, PING, AWAY, AWAY, AWAY, AWAY)), (plain(of(PING, AWAY, AWAY)), 2))

    def test_rows_that_repeat_though_the_run_is_no_power(self):
        # each row has two alike halves, but the letters of the first ones are not taken in the first ones
        rows = {"a": [("send", "k", "b"), ("send", "l", "b")], "b": [("take", "l"), ("take", "k")]}
        self.assertEqual(root_of(Run(rows))[1], 1)
        rows = {"a": [("send", "k", "b"), ("take", "m"), ("send", "l", "b"), ("take", "n")],
                "b": [("send", "m", "a"), ("send", "n", "a"), ("take", "k"), ("take", "l")]}
        self.assertEqual(root_of(Run(rows))[1], 1)

    def test_common_starts_that_end_where_a_letter_is_not_common(self):
        # both begin with the same sends, but are taken in another order
        one = Run({"a": [("send", "k", "b"), ("send", "l", "b")], "b": [("take", "k"), ("take", "l")]})
        other = Run({"a": [("send", "k", "b"), ("send", "l", "b")], "b": [("take", "l"), ("take", "k")]})
        self.assertEqual([common_start(one, other), common_whole(one, other)], [Run({}), None])
        self.assertIs(is_start_of(Run(PING), other), False)
        # what is cut off of one row is cut off of another one by its letters
        one, other = of(BOTH, PING), of(BOTH, PONG)
        self.assertEqual(common_start(one, other), plain(Run(BOTH)))
        one = Run({"a": [("send", "k", "b")], "b": [("take", "k"), ("send", "l", "c")], "c": [("take", "l")]})
        other = Run({"a": [("send", "k", "b")], "b": [("send", "l", "c"), ("take", "k")], "c": [("take", "l")]})
        self.assertEqual(common_start(one, other), Run({}))

    def test_the_whole_of_parts_that_have_a_start_in_common(self):
        whole = common_whole(of(PING, AWAY), of(PING, OVER))
        self.assertIsNone(whole)
        whole = common_whole(of(PING, PONG), of(PING, AWAY))
        self.assertEqual(whole, plain(of(PING, PONG, AWAY)))
        self.assertEqual(whole.letters(), ["a", "b", "c"])


if __name__ == "__main__":
    unittest.main()
