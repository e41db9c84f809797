"""[87] to [93]: a desk, its commands, what it holds to, blocks, and commands taken back, made again and replayed."""

import random
import unittest

from postways.desk import Desk, replayed
from postways.errors import (InvalidDesk, InvalidKind, InvalidLetter, InvalidParty, InvalidRecord, InvalidRun,
                             NothingToRedo, NothingToUndo, Refused)
from postways.kinds import KINDS, is_of, kinds_of, least_kind
from postways.primes import behind
from postways.rings import crown
from postways.runs import Run, lying
from tests.calls import Call, CallCase, EachCall, made_again, odd_but, shown, spoil, told
from tests.samples import CROSSED, CROSSING, EXAMPLE, HELD, KNOT, LATE, LOST, MIXED, SWAPPED, deep

NAMES = {"send": ["letter", "sender", "receiver"], "take": ["letter"], "drop": ["letter"], "put": ["run"],
         "hold": ["kind"], "free": ["kind"]}
NO_WORDS = ["", "X", "x ", " x", "x1", "abcdefghi", "x\n", None, True, 1, ("x",), ["x"], {"x": 1}, Run({}),
            deep(lambda inner: [inner]), deep(lambda inner: (inner,)), Refused("x"), Desk()]
NO_KINDS = ["Box", "box ", "BOX", "lane", "", ("box",), ["box"], True, False, KINDS, 0, Run({}), {"box": 1}, Desk()]
NO_RUNS = [EXAMPLE, None, "run", [Run({})], (Run({}),), {"run": Run({})}, True, Desk(), deep(lambda inner: [inner])]


def at_work():
    """A desk at which a lies and b was taken; it holds to "lanes", and one command was taken back."""
    desk = Desk()
    desk.send("b", "p", "q")
    desk.send("a", "p", "r")
    desk.hold("lanes")
    desk.take("b")
    desk.send("c", "q", "p")
    desk.undo()
    return desk


def do(desk, word, *things):
    """Calls a method of a desk by its name."""
    return getattr(desk, word)(*things)


class Examples(unittest.TestCase):
    def test_the_block_of_the_document(self):
        desk = Desk()
        self.assertEqual(
            [desk.send("a", "p", "q"), desk.send("b", "q", "p"), desk.kind(), desk.take("a"), desk.take("b"),
             desk.kind(), desk.lying()],
            [None, None, 'belt', None, None, 'belt', []])
        self.assertEqual(
            [desk.hold("belt"), desk.send("c", "p", "q"), desk.send("d", "p", "q"), desk.free("lanes"), desk.undo(),
             desk.held(), len(desk.record())],
            [None, None, None, ['c'], None, 'belt', 6])
        self.assertEqual(
            [desk.drop("a"), desk.run().rows(), replayed(Desk(), desk.record()).run() == desk.run(), desk.undo(),
             desk.undo(), desk.redo(), desk.lying()],
            [None, {'p': [('take', 'b'), ('send', 'c', 'q')], 'q': [('send', 'b', 'p')]}, True, None, None, None,
             ['c']])


class WrongMethods(unittest.TestCase):
    def check_method(self, make, name, arguments, error, value):
        """A method of a desk raises just this error, keeps the very value and changes nothing."""
        for passed in ((arguments, {}), ([], dict(zip(NAMES[name], arguments)))):
            desk = make()
            before = shown(desk), shown(arguments)
            outcome = told(lambda: getattr(desk, name)(*passed[0], **passed[1]))
            self.assertIs(type(outcome), error, (name, arguments))
            self.assertIs(outcome.value, value, (name, arguments))
            self.assertEqual((shown(desk), shown(arguments)), before)

    def test_sends(self):
        for make in (Desk, at_work):
            for wrong in NO_WORDS:
                self.check_method(make, "send", [wrong, "p", "q"], InvalidLetter, wrong)
                self.check_method(make, "send", [wrong, wrong, wrong], InvalidLetter, wrong)
                self.check_method(make, "send", ["z", wrong, "q"], InvalidParty, wrong)
                self.check_method(make, "send", ["z", wrong, wrong], InvalidParty, wrong)
                self.check_method(make, "send", ["z", "p", wrong], InvalidParty, wrong)
            self.check_method(make, "send", ["z", "p", "p"], InvalidParty, "p")
        for letter in ("a", "b"):
            self.check_method(at_work, "send", [letter, "p", "q"], InvalidLetter, letter)
            self.check_method(at_work, "send", [letter, None, None], InvalidLetter, letter)

    def test_takes_and_drops(self):
        odd = odd_but("a", "b", "x")
        for wrong in [*NO_WORDS, *odd, "c", "p", "A", "a ", ("a",), ["a"], ("a", "send")]:
            self.check_method(at_work, "take", [wrong], InvalidLetter, wrong)
            self.check_method(at_work, "drop", [wrong], InvalidLetter, wrong)
        self.check_method(at_work, "take", ["b"], InvalidLetter, "b")
        for name in ("take", "drop"):
            self.check_method(Desk, name, ["a"], InvalidLetter, "a")

    def test_runs_that_are_put(self):
        for wrong in [*NO_RUNS, *[value for value in odd_but() if not isinstance(value, Run)]]:
            self.check_method(at_work, "put", [wrong], InvalidRun, wrong)
        for run in (Run({"s": [("send", "a", "t")], "t": []}), crown(3), Run(MIXED)):
            self.check_method(at_work, "put", [run], Refused, run)

    def test_kinds(self):
        for wrong in [*NO_KINDS, *odd_but(None)]:
            self.check_method(at_work, "hold", [wrong], InvalidKind, wrong)
            for make in (Desk, at_work):
                self.check_method(make, "free", [wrong], InvalidKind, wrong)
        self.check_method(at_work, "free", [None], InvalidKind, None)

    def test_kinds_that_are_refused(self):
        for rows in (SWAPPED, LATE, HELD, CROSSED, KNOT):
            def put():
                desk = Desk()
                desk.put(Run(rows))
                return desk
            for kind in KINDS:
                if not is_of(Run(rows), kind):
                    text = "".join([kind[:2], kind[2:]])
                    self.check_method(put, "hold", [text], Refused, text)

    def test_what_a_held_kind_refuses(self):
        self.check_method(held_to("lanes", "pq", "pq"), "take", ["b"], Refused, "b")
        self.check_method(held_to("causal", "pq", "pq"), "take", ["b"], Refused, "b")
        self.check_method(held_to("box", "pq", "pq"), "take", ["b"], Refused, "b")
        self.check_method(held_to("outbox", "pq", "pr"), "take", ["b"], Refused, "b")
        self.check_method(held_to("belt", "pq", "pr"), "take", ["b"], Refused, "b")
        self.check_method(held_to("hand"), "send", ["a", "p", "q"], Refused, "a")
        for kind, rows in (("lanes", LOST), ("causal", LATE), ("box", CROSSING), ("outbox", HELD), ("belt", KNOT),
                           ("hand", CROSSED)):
            run = Run(rows)
            self.check_method(held_to(kind), "put", [run], Refused, run)

    def test_other_errors_come_ahead_of_what_a_held_kind_refuses(self):
        self.check_method(held_to("hand"), "send", ["a", "p", "p"], InvalidParty, "p")
        self.check_method(held_to("hand"), "send", ["A", "p", "q"], InvalidLetter, "A")
        self.check_method(held_to("hand"), "put", [None], InvalidRun, None)
        self.check_method(held_to("hand"), "take", ["a"], InvalidLetter, "a")

    def test_nothing_to_take_back_or_to_make_again(self):
        for desk, name, error in ((Desk(), "undo", NothingToUndo), (Desk(), "redo", NothingToRedo)):
            outcome = told(getattr(desk, name))
            self.assertEqual([type(outcome), hasattr(outcome, "value"), shown(desk)], [error, False, shown(Desk())])
        desk = at_work()
        desk.redo()
        before = shown(desk)
        self.assertEqual([type(told(desk.redo)), shown(desk)], [NothingToRedo, before])


def held_to(kind, *ways):
    """How to make a desk that holds to a kind, at which a, b, .. lie that went these ways."""
    def make():
        desk = Desk()
        for letter, (sender, receiver) in zip("abc", ways):
            desk.send(letter, sender, receiver)
        desk.hold(kind)
        return desk
    return make


class Wrong(EachCall, CallCase):
    calls = [Call(replayed, ("desk", at_work, InvalidDesk),
                  ("record", lambda: [("take", "a"), ("put", Run(EXAMPLE)), ("hold", None)], InvalidRecord))]
    good = {InvalidRecord: [[]]}

    def test_objects_that_are_no_records(self):
        wrongs = [(("take", "a"),), [["take", "a"]], [("take",)], [("take", "a", "a")], [("send", "a", "p")],
                  [("send", "a", "p", "q", "q")], [("undo",)], [("kind",)], [("try", [])], [("Take", "a")], [()],
                  [("take ", "a")], [(True, "a")], [(None, "a")], [(["take"], "a")], [({}, "a")], [("put",)],
                  [("hold",)], [("hold", "box", "box")], ["take"], {"take": "a"}, [("take", "a"), None], None, "take",
                  [(("take",), "a")], [("drop",)], [("free", "box")], [(Run({}), "a")], [("lying",)], [("redo",)]]
        self.check_wrong(self.calls[0], 1, wrongs)

    def test_the_first_error_of_a_command_is_raised(self):
        desk = at_work()
        before, error = shown(desk), [("take", "x")]
        for record, kind, value in (
            ([("take", "a"), ("take", "a"), ("take", None)], InvalidLetter, "a"),
            ([("send", "z", None, None)], InvalidParty, None), ([("put", error)], InvalidRun, error),
            ([("hold", "Box")], InvalidKind, "Box"), ([("drop", "zz"), ("put", 1)], InvalidLetter, "zz"),
            ([("send", "z", "p", "q"), ("send", "y", "p", "q"), ("take", "y")], Refused, "y"),
            ([("send", True, 1, 2)], InvalidLetter, True),
        ):
            outcome = told(lambda: replayed(desk, record))
            self.assertIs(type(outcome), kind)
            self.assertEqual(shown(outcome.value), shown(value))
            self.assertEqual(shown(desk), before)
        outcome = told(lambda: replayed(desk, [("put", error)]))
        self.assertIs(outcome.value, error)


class Plain:
    """A desk told by the list of its commands and of those that were taken back."""

    def __init__(self):
        self.done = []
        self.undone = []

    def run_behind(self, commands):
        """The run and the kind that is held behind some commands."""
        rows, held = {}, None
        for word, *things in commands:
            if word == "send":
                letter, sender, receiver = things
                for party in (receiver, sender):
                    rows.setdefault(party, [])
                rows[sender] = rows[sender] + [("send", letter, receiver)]
            elif word == "take":
                party = next(deed[2] for row in rows.values() for deed in row if deed[:2] == ("send", things[0]))
                rows[party] = rows[party] + [("take", things[0])]
            elif word == "drop":
                rows = {party: [deed for deed in row if deed[1] != things[0]] for party, row in rows.items()}
            elif word == "put":
                for party, row in things[0].rows().items():
                    rows[party] = rows.get(party, []) + row
            else:
                held = things[0]
        return Run(rows), held

    def now(self):
        return self.run_behind(self.done)

    def allows(self, command):
        """Whether a command can be made, of such as have good arguments but for what the run has."""
        run, held = self.now()
        word, thing = command[:2]
        known, there = run.letters(), lying(run)
        fits = {"send": lambda: thing not in known, "take": lambda: thing in there, "drop": lambda: thing in known,
                "put": lambda: not any(letter in known for letter in thing.letters()), "hold": lambda: True}
        if not fits[word]():
            return False
        after, holds = self.run_behind([*self.done, command])
        return holds is None or is_of(after, holds)

    def do(self, command):
        """Whether a command could be made; it is."""
        if command == ("undo",):
            if self.done:
                self.undone.append(self.done.pop())
                return True
            return False
        if command == ("redo",):
            if self.undone:
                self.done.append(self.undone.pop())
                return True
            return False
        if not self.allows(command):
            return False
        self.done, self.undone = [*self.done, command], []
        return True


def chance_command(chance):
    """A command by chance; the words are few, so that they meet."""
    word = chance.choice(["send"] * 6 + ["take"] * 6 + ["drop", "put", "hold", "hold", "undo", "undo", "undo", "redo",
                                                      "redo"])
    letter = chance.choice("abcdef")
    sender, receiver = chance.sample("pqr", 2)
    thing = {"put": chance.choice([Run({"p": [("send", letter, "q")], "q": [("take", letter)]}), Run({"s": []}),
                                   Run({"q": [("send", letter, "r")], "r": []})]),
             "hold": chance.choice([None, *KINDS]), "take": letter, "drop": letter}
    return {"send": ("send", letter, sender, receiver), "undo": ("undo",), "redo": ("redo",)}.get(
        word, (word, thing.get(word)))


class ByCommands(unittest.TestCase):
    """A desk held against one that is told by the list of its commands."""

    def check_same(self, desk, plain):
        run, held = plain.now()
        self.assertEqual([desk.run(), desk.held(), desk.lying(), desk.record()], [run, held, lying(run), plain.done])
        self.assertEqual([command for command, _, _ in made_again(desk)], plain.undone[::-1])

    def test_commands_by_chance(self):
        refused = 0
        for seed in range(25):
            chance, desk, plain = random.Random(seed), Desk(), Plain()
            for _ in range(60):
                command = chance_command(chance)
                outcome = told(lambda: do(desk, *command))
                done = plain.do(command)
                self.assertEqual(outcome is None, done, command)
                refused += isinstance(outcome, Refused)
                self.check_same(desk, plain)
            self.assertEqual([desk.kind(), desk.held() is None or is_of(desk.run(), desk.held())],
                             [least_kind(desk.run()), True])
        self.assertGreater(refused, 50)

    def test_blocks_by_chance(self):
        for seed in range(12):
            chance, desk = random.Random(100 + seed), Desk()
            for _ in range(30):
                told(lambda: do(desk, *chance_command(chance)))
                before = shown(desk)
                with desk.trial() as held:
                    self.assertIs(held, desk)
                    for _ in range(chance.randrange(6)):
                        told(lambda: do(desk, *chance_command(chance)))
                self.assertEqual(shown(desk), before)

    def test_copies_by_chance(self):
        for seed in range(12):
            chance, desk, plain = random.Random(200 + seed), Desk(), Plain()
            for _ in range(20):
                command = chance_command(chance)
                told(lambda: do(desk, *command))
                plain.do(command)
                other, before = desk.copy(), shown(desk)
                self.assertEqual([type(other), shown(other), other is desk], [Desk, before, False])
                for _ in range(4):
                    told(lambda: do(other, *chance_command(chance)))
                self.assertEqual(shown(desk), before)
                self.check_same(desk, plain)

    def test_records_are_played_again(self):
        for seed in range(12):
            chance, desk = random.Random(300 + seed), Desk()
            for _ in range(30):
                told(lambda: do(desk, *chance_command(chance)))
            again = replayed(Desk(), desk.record())
            self.assertEqual([again.run(), again.held(), again.record()], [desk.run(), desk.held(), desk.record()])
            self.assertEqual(made_again(again), made_again(desk) if not made_again(desk) else [])
            both = replayed(at_work(), [("drop", "a"), ("drop", "b"), ("hold", None), *desk.record()])
            self.assertEqual(both.record(), [*at_work().record(), ("drop", "a"), ("drop", "b"), ("hold", None),
                                             *desk.record()])

    def test_what_is_free(self):
        seen = set()
        for seed in range(12):
            chance, desk = random.Random(400 + seed), Desk()
            for _ in range(12):
                told(lambda: do(desk, *chance_command(chance)))
                for kind in KINDS:
                    expected = []
                    for letter in desk.lying():
                        with desk.trial():
                            desk.hold(None)
                            desk.take(letter)
                            if is_of(desk.run(), kind):
                                expected.append(letter)
                    self.assertEqual(desk.free(kind), expected)
                    seen.add((kind, len(expected)))
        for kind in KINDS:
            self.assertGreater(len([many for some, many in seen if some == kind]), 1)

    def test_what_is_lost_by_sends_and_takes(self):
        back = set()
        for seed in range(60):
            chance, desk = random.Random(500 + seed), Desk()
            lost = []
            for _ in range(14):
                command = chance_command(chance)
                if command[0] in ("send", "take"):
                    told(lambda: do(desk, *command))
                    kinds = kinds_of(desk.run())
                    back.update(kind for kind in lost if kind in kinds)
                    lost = [kind for kind in KINDS if kind not in kinds]
        self.assertEqual(back - {"outbox", "belt", "hand"}, set())
        self.assertIn("hand", back)


class Edges(unittest.TestCase):
    def test_a_new_desk(self):
        desk = Desk()
        self.assertEqual([desk.run(), desk.kind(), desk.held(), desk.lying(), desk.record()],
                         [Run({}), "hand", None, [], []])
        self.assertEqual([desk.free(kind) for kind in KINDS], [[]] * 6)
        self.assertIs(desk == desk, True)

    def test_each_command_returns_nothing(self):
        desk = Desk()
        for command in (("send", "a", "p", "q"), ("take", "a"), ("put", Run({"r": []})), ("hold", "hand"), ("hold", None),
                        ("drop", "a"), ("undo",), ("redo",)):
            self.assertIsNone(do(desk, *command))

    def test_sends_bring_parties_in(self):
        desk = Desk()
        desk.send("p", "q", "p")
        self.assertEqual(desk.run().rows(), {"p": [], "q": [("send", "p", "p")]})
        desk.drop("p")
        # they stay when the letter is dropped
        self.assertEqual(desk.run().rows(), {"p": [], "q": []})

    def test_drops_of_letters_that_lie_and_that_are_taken(self):
        desk = at_work()
        desk.drop("b")
        self.assertEqual(desk.run().rows(), {"p": [("send", "a", "r")], "q": [], "r": []})
        desk.drop("a")
        self.assertEqual([desk.run().rows(), desk.lying()], [{"p": [], "q": [], "r": []}, []])
        # the word may be sent again
        desk.send("a", "r", "p")
        self.assertEqual(desk.lying(), ["a"])

    def test_runs_are_put_behind(self):
        desk = at_work()
        desk.put(Run(EXAMPLE))
        self.assertEqual(desk.run(), behind(at_work().run(), Run(EXAMPLE)))
        desk.put(Run({}))
        self.assertEqual(desk.record()[-2:], [("put", Run(EXAMPLE)), ("put", Run({}))])

    def test_a_desk_that_holds_to_each_kind(self):
        for kind in KINDS:
            desk = Desk()
            desk.hold(kind)
            if kind == "hand":
                self.assertIs(type(told(lambda: desk.send("a", "p", "q"))), Refused)
                desk.put(Run({"p": [("send", "a", "q")], "q": [("take", "a")]}))
            else:
                desk.send("a", "p", "q")
                desk.take("a")
            self.assertEqual([desk.held(), desk.kind(), desk.lying()], [kind, "hand", []])
            desk.hold(None)
            desk.send("b", "p", "q")
            desk.send("c", "p", "q")
            desk.take("c")
            self.assertEqual([desk.held(), desk.kind(), desk.free("lanes")], [None, None, []])
            self.assertIs(type(told(lambda: desk.hold(kind))), Refused)

    def test_kinds_that_come_back(self):
        desk = Desk()
        desk.send("a", "p", "q")
        self.assertEqual(desk.kind(), "belt")
        desk.take("a")
        self.assertEqual(desk.kind(), "hand")
        # y was taken while x, sent earlier by the same one, lay
        desk = Desk()
        desk.send("x", "p", "q")
        desk.send("y", "p", "r")
        desk.take("y")
        self.assertEqual([desk.kind(), desk.free("outbox")], ["box", ["x"]])
        desk.take("x")
        self.assertEqual(desk.kind(), "hand")

    def test_what_is_free_for_each_kind(self):
        desk = Desk()
        for letter, (sender, receiver) in zip("abcd", ("pq", "pr", "sq", "pq")):
            desk.send(letter, sender, receiver)
        self.assertEqual({kind: desk.free(kind) for kind in KINDS},
                         {"lanes": ["a", "b", "c"], "causal": ["a", "b", "c"], "box": ["a", "b", "c"],
                          "outbox": ["a", "c"], "belt": ["a", "c"], "hand": []})

    def test_undo_and_redo_to_their_ends(self):
        desk = Desk()
        commands = [("send", "a", "p", "q"), ("hold", "lanes"), ("take", "a"), ("put", Run(EXAMPLE)), ("drop", "x"),
                    ("hold", None)]
        states = [shown(desk)]
        for command in commands:
            do(desk, *command)
            states.append(shown([desk.run(), desk.held(), desk.record()]))
        for state in states[-2:0:-1]:
            desk.undo()
            self.assertEqual(shown([desk.run(), desk.held(), desk.record()]), state)
        desk.undo()
        self.assertIs(type(told(desk.undo)), NothingToUndo)
        for state in states[1:]:
            desk.redo()
            self.assertEqual(shown([desk.run(), desk.held(), desk.record()]), state)
        self.assertIs(type(told(desk.redo)), NothingToRedo)

    def test_a_new_command_ends_what_can_be_made_again(self):
        desk = at_work()
        self.assertEqual(len(made_again(desk)), 1)
        # neither asking nor what raises an error is a command
        told(lambda: desk.take("none"))
        self.assertEqual([desk.kind(), desk.free("box"), desk.lying(), len(made_again(desk))], ["belt", ["a"], ["a"], 1])
        desk.hold("lanes")
        self.assertEqual([made_again(desk), type(told(desk.redo))], [[], NothingToRedo])
        desk.undo()
        self.assertEqual([command for command, _, _ in made_again(desk)], [("hold", "lanes")])

    def test_nothing_is_shared(self):
        desk = at_work()
        before = shown(desk)
        for name in ("lying", "record"):
            self.assertIsNot(getattr(desk, name)(), getattr(desk, name)())
            spoil(getattr(desk, name)())
        spoil(desk.free("lanes"))
        spoil(desk.run().rows())
        self.assertEqual(shown(desk), before)
        record = [("take", "a")]
        other = replayed(desk, record)
        spoil(record)
        self.assertEqual([other.record()[-1], shown(desk)], [("take", "a"), before])


class Blocks(unittest.TestCase):
    def test_a_block_that_is_left(self):
        desk = at_work()
        before = shown(desk)
        with desk.trial() as held:
            self.assertIs(held, desk)
            desk.redo()
            desk.undo()
            desk.undo()
            desk.undo()
            desk.send("z", "p", "q")
            self.assertEqual([desk.record()[-1], made_again(desk)], [("send", "z", "p", "q"), []])
        self.assertEqual([shown(desk), len(made_again(desk))], [before, 1])

    def test_a_block_that_is_left_by_an_error(self):
        desk = at_work()
        before, error = shown(desk), KeyError("mine")
        with self.assertRaises(KeyError) as caught:
            with desk.trial():
                desk.take("a")
                raise error
        self.assertIs(caught.exception, error)
        self.assertEqual(shown(desk), before)
        with self.assertRaises(InvalidLetter):
            with desk.trial():
                desk.drop("b")
                desk.drop("b")
        self.assertEqual(shown(desk), before)

    def test_a_block_begins_when_it_is_entered(self):
        desk = at_work()
        block = desk.trial()
        desk.take("a")
        before = shown(desk)
        with block:
            desk.drop("a")
        self.assertEqual(shown(desk), before)

    def test_blocks_within_blocks(self):
        desk, states = Desk(), []

        def further(depth):
            do(desk, "send", "abcdefghij"[depth], "p", "q")
            states.append(shown(desk))
            if depth < 9:
                with desk.trial():
                    further(depth + 1)
                    self.assertEqual(shown(desk), states[depth + 1])
                    desk.undo()
                    desk.undo()
            self.assertEqual(shown(desk), states[depth])
        with desk.trial():
            further(0)
        self.assertEqual(shown(desk), shown(Desk()))

    def test_an_error_through_blocks_within_blocks(self):
        desk = at_work()
        before = shown(desk)
        with self.assertRaises(ZeroDivisionError):
            with desk.trial():
                desk.take("a")
                with desk.trial():
                    desk.drop("a")
                    with desk.trial():
                        desk.undo()
                        raise ZeroDivisionError
        self.assertEqual(shown(desk), before)

    def test_attempts_return_the_very_object(self):
        desk = at_work()
        before, mine, calls = shown(desk), [object()], []

        def action(held):
            calls.append(held)
            held.take("a")
            held.undo()
            held.undo()
            return mine
        self.assertIs(desk.attempt(action), mine)
        self.assertEqual([len(calls), shown(desk)], [1, before])
        self.assertIs(calls[0], desk)
        self.assertIs(desk.attempt(action=lambda held: held), desk)
        self.assertIsNone(desk.attempt(lambda held: held.take("a")))
        self.assertEqual(shown(desk), before)

    def test_attempts_that_raise_errors(self):
        desk = at_work()
        before, error = shown(desk), LookupError("mine")

        def action(held):
            held.take("a")
            raise error
        with self.assertRaises(LookupError) as caught:
            desk.attempt(action)
        self.assertIs(caught.exception, error)
        self.assertEqual(shown(desk), before)

    def test_attempts_within_attempts(self):
        desk = at_work()

        def inner(held):
            held.drop("a")
            return held.lying()

        def outer(held):
            held.send("d", "p", "q")
            return [held.attempt(inner), held.lying()]
        self.assertEqual([desk.attempt(outer), desk.lying()], [[["d"], ["a", "d"]], ["a"]])

    def test_a_copy_made_within_a_block(self):
        desk = at_work()
        with desk.trial():
            desk.send("d", "p", "q")
            desk.send("e", "p", "q")
            desk.undo()
            other = desk.copy()
            within = shown(desk)
            other.take("d")
            self.assertEqual(shown(desk), within)
            other.undo()
        # it is in no block, and its undo and redo reach all
        self.assertEqual([other.lying(), desk.lying()], [["a", "d"], ["a"]])
        other.redo()
        self.assertEqual([other.lying(), len(other.record())], [["a"], 6])
        for _ in range(6):
            other.undo()
        self.assertEqual([other.run(), type(told(other.undo))], [Run({}), NothingToUndo])

    def test_undo_within_a_block_reaches_what_was_done_ahead_of_it(self):
        desk = at_work()
        with desk.trial():
            for _ in range(4):
                desk.undo()
            self.assertEqual([desk.run(), type(told(desk.undo))], [Run({}), NothingToUndo])
            for _ in range(5):
                desk.redo()
            self.assertEqual([desk.lying(), type(told(desk.redo))], [["a", "c"], NothingToRedo])
        self.assertEqual(desk.lying(), ["a"])


if __name__ == "__main__":
    unittest.main()
