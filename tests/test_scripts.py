"""[94], [95], [99]: scripts, what is said when they are played, how they end, shortened ones, and their texts."""

import itertools
import random
import unittest

from postways.desk import Desk, replayed
from postways.errors import InvalidDesk, InvalidScript, InvalidText, NothingToUndo, PostError
from postways.kinds import KINDS
from postways.papers import run_text
from postways.runs import Run
from postways.scripts import end_of, play, read_script, script_text, shortened
from tests.calls import Call, CallCase, EachCall, call_of, made_again, odd_but, shown, spoil, told
from tests.samples import EXAMPLE, HELD, MIXED, deep
from tests.test_desk import at_work
from tests.test_papers import bent

RUN = {"p": [("send", "a", "q"), ("take", "b")], "q": [("send", "b", "p"), ("take", "a")], "r": []}
DAY = [("send", "a", "p", "q"), ("hold", "hand"), ("take", "a"), ("hold", "hand"), ("send", "b", "p", "q"),
       ("try", [("hold", None), ("send", "b", "p", "q")]), ("kind",), ("held",)]
ALL = [("send", "a", "p", "q"), ("take", "a"), ("drop", "a"), ("put", Run(RUN)), ("hold", "box"), ("hold", None),
       ("kind",), ("held",), ("lying",), ("free", "lanes"), ("undo",), ("redo",),
       ("try", [("put", Run({})), ("try", []), ("try", [("undo",)])])]


def day():
    """A new script of new lists."""
    return [("try", list(command[1])) if command[0] == "try" else command for command in DAY]


TEXT = ("send a p q\nhold hand\ntake a\nhold hand\nsend b p q\ntry\n  hold none\n  send b p q\nend\nkind\nheld")
CALLS = [
    Call(end_of, ("script", day, InvalidScript)),
    Call(shortened, ("script", day, InvalidScript)),
    Call(script_text, ("script", day, InvalidScript)),
    Call(read_script, ("text", lambda: TEXT, InvalidText)),
]
PLAYING = Call(play, ("desk", Desk, InvalidDesk), ("script", day, InvalidScript))
GOOD = {InvalidScript: [[]], InvalidText: [""]}
NO_COMMANDS = [
    ("send", "a", "p"), ("send", "a", "p", "q", "r"), ("send", "A", "p", "q"), ("send", "a", "p ", "q"),
    ("send", "a", "p", None), ("send", ["a"], "p", "q"), ("send", "a", "p", True), ("take",), ("take", "a", "b"),
    ("take", "A"), ("take", ""), ("take", ("a",)), ("take", Run({})), ("take", "abcdefghi"), ("drop",), ("drop", 1),
    ("drop", None), ("put",), ("put", EXAMPLE), ("put", None), ("put", [Run({})]), ("put", Desk()), ("put", Run({}), Run({})),
    ("hold",), ("hold", "Box"), ("hold", "none"), ("hold", True), ("hold", ["box"]), ("hold", "box", "box"), ("kind", "box"),
    ("kind", None), ("held", None), ("lying", "a"), ("free",), ("free", None), ("free", "boxes"), ("free", "box", "box"),
    ("undo", 1), ("redo", None), ("undo", "undo"), ("try",), ("try", None), ("try", ()), ("try", [], []), ("try", ["kind"]),
    ("try", [("kind",), ("none",)]), ("try", {}), ("try", [["kind"]]), ("try", "kind"), ("try", (("kind",),)), ("record",),
    ("run",), ("copy",), ("trial",), ("attempt", "a"), ("told", []), ("end",), ("Send", "a", "p", "q"), ("kind ",), (), ("",),
    (None,), (True,), (["kind"],), ({},), (Run({}),), (("kind",),), ["kind"], "kind", None, True, 0, {"kind": ()}, Run({}),
    deep(lambda inner: [inner]), deep(lambda inner: (inner,)), deep(lambda inner: ("try", [inner]), 13),
    deep(lambda inner: [("try", inner)], 13), ("put", Run), ("lying", None),
]


class Examples(unittest.TestCase):
    def test_the_block_of_the_document(self):
        run = Run({"p": [("send", "a", "q"), ("take", "b")], "q": [("send", "b", "p"), ("take", "a")], "r": []})
        day = [("send", "a", "p", "q"), ("hold", "hand"), ("take", "a"), ("hold", "hand"), ("send", "b", "p", "q"),
               ("try", [("hold", None), ("send", "b", "p", "q")]), ("kind",), ("held",)]
        self.assertEqual(
            play(Desk(), day),
            [('done',), ('refused', 'Refused'), ('done',), ('done',), ('refused', 'Refused'),
             ('tried', [('done',), ('done',)]), ('told', 'hand'), ('told', 'hand')])
        self.assertEqual(
            [end_of(day)[1], len(shortened(day)), script_text(day[3:6]), read_script(script_text(day)) == day],
            ['hand', 3, 'hold hand\nsend b p q\ntry\n  hold none\n  send b p q\nend', True])
        self.assertEqual(script_text([("put", run), ("undo",)]),
                         'put\n  p: a>q <b\n  q: b>p <a\n  r:\nend\nundo')


class Wrong(EachCall, CallCase):
    calls, good = CALLS, GOOD

    def test_wrong_desks_and_scripts(self):
        self.check_odd_objects([PLAYING], GOOD)

    def test_objects_that_are_no_scripts(self):
        wrongs = [[command] for command in NO_COMMANDS if command != ("put", Run)]
        wrongs += [[*DAY, command] for command in NO_COMMANDS[:12]] + [tuple(DAY), {"kind": ()}, DAY[0], "kind", None]
        wrongs += [[("try", [("try", [command])])] for command in NO_COMMANDS[:12]]
        for function in (end_of, shortened, script_text):
            self.check_wrong(call_of(CALLS, function), 0, wrongs)
        self.check_wrong(PLAYING, 1, wrongs)

    def test_a_wrong_script_changes_no_desk(self):
        desk = at_work()
        before = shown(desk)
        wrong = [("take", "a"), ("undo",), ("undo", 1)]
        outcome = told(lambda: play(desk, wrong))
        self.assertEqual([type(outcome), outcome.value is wrong, shown(desk)], [InvalidScript, True, before])

    def test_texts_of_no_scripts(self):
        wrongs = ["kind ", " kind", "kind\n", "\nkind", "kind\n\nheld", "Kind", "kinds", "send a p", "send a p q r", "send  a p q",
                  "send A p q", "take", "take ", "take a b", "hold", "hold box box", "hold None", "hold Box", "free", "free none",
                  "undo 1", "try", "try\n  kind", "try\nkind\nend", "try\n kind\nend", "try\n   kind\nend", "try\n  kind\n end",
                  "try\n  kind\nEnd", "try\n  end\nend", "end", "kind\nend", "try\nend\nend", "put", "put\nend\nend", "put\n  p: a>q\nend",
                  "put\n  q:\n  p:\nend", "put\n p:\nend", "put\n  p: \nend", "put\n  \nend", "try\n  \nend", "put p:\nend",
                  "try kind\nend", "put\n  p:\n", "put\n  p:\nend ", "try\n  try\n  end", "try\n  try\nend", "kind\n  held", "  kind",
                  "try\n  put\n    p:\n  end", "try\n  put\n  p:\n  end\nend", "none", " ", "\n", "try\n\nend", "try\n  kind\n\nend",
                  "record", "put\n  p: a>p\nend", "kind\theld", "send a p abcdefghi", "undo\nend", "put\nend\n  p:", "end\nput"]
        self.check_wrong(call_of(CALLS, read_script), 0, wrongs)

    def test_texts_bent_in_one_place(self):
        for script in (DAY[3:6], [("put", Run({"p": [("send", "a", "q")], "q": []})), ("undo",)], [("try", [("try", [])])],
                       [("free", "box"), ("take", "end")], []):
            refused = 0
            for wrong in bent(script_text(script)):
                outcome = told(lambda: read_script(wrong))
                if type(outcome) is InvalidText:
                    refused += 1
                    self.assertIs(outcome.value, wrong)
                else:
                    self.assertEqual(script_text(outcome), wrong)
            self.assertGreater(refused, 20)

    def test_what_was_passed_and_told_can_be_changed(self):
        script = day()
        left, said = shortened(script), play(Desk(), script)
        before = shown([left, said])
        spoil(script)
        self.assertEqual(shown([left, said]), before)
        inner = [("send", "a", "p", "q")]
        script = [("send", "b", "p", "q"), ("try", inner), ("take", "b")]
        whole, read = shortened([*script, ("drop", "b")]), read_script(script_text(script))
        spoil(shortened(script))
        spoil(whole)
        spoil(read)
        self.assertEqual(script[1], ("try", [("send", "a", "p", "q")]))
        self.assertEqual(script_text(script), "send b p q\ntry\n  send a p q\nend\ntake b")

    def test_lists_within_tries_are_new(self):
        script = [("try", [("take", "a")]), ("send", "a", "p", "q")]
        self.assertEqual(shortened(script), script[1:])
        said = play(Desk(), [("send", "a", "p", "q"), ("lying",), ("try", [("lying",)])])
        self.assertEqual(said, [("done",), ("told", ["a"]), ("tried", [("told", ["a"])])])
        self.assertIsNot(said[1][1], said[2][1][0][1])


def plain_play(desk, script):
    """What is said, by calling the methods of a desk one by one; a try is played on a copy."""
    said = []
    for word, *things in script:
        if word == "try":
            said.append(("tried", plain_play(desk.copy(), things[0])))
            continue
        try:
            outcome = getattr(desk, word)(*things)
        except PostError as error:
            said.append(("refused", type(error).__name__))
        else:
            said.append(("told", outcome) if word in ("kind", "held", "lying", "free") else ("done",))
    return said


def chance_script(chance, many, depth=2):
    """A script of so many commands by chance, and a few more within tries."""
    script = []
    for _ in range(many):
        word = chance.choice(["send"] * 5 + ["take"] * 5 + ["drop", "put", "hold", "kind", "held", "lying", "free", "undo",
                                                            "undo", "redo", "try"])
        letter, things = chance.choice("abcd"), {}
        sender, receiver = chance.choice("pqr"), chance.choice("pqr")
        things["send"] = (letter, sender, receiver)
        things["take"] = things["drop"] = (letter,)
        things["put"] = (chance.choice([Run(RUN), Run({"p": [("send", letter, "q")], "q": [("take", letter)]}), Run({})]),)
        things["hold"] = (chance.choice([None, *KINDS]),)
        things["free"] = (chance.choice(KINDS),)
        things["try"] = (chance_script(chance, chance.randrange(4), depth - 1) if depth else [],)
        script.append((word, *things.get(word, ())))
    return script


class ByCommands(unittest.TestCase):
    """Scripts held against their commands, one by one."""

    @classmethod
    def setUpClass(cls):
        chance = random.Random(94)
        cls.scripts = [DAY, ALL, [], [("try", [])]] + [chance_script(chance, k % 9) for k in range(150)]

    def test_what_is_said(self):
        words = set()
        for script in self.scripts:
            for make in (Desk, at_work):
                one, other = make(), make()
                said = play(one, script)
                self.assertEqual(said, plain_play(other, script))
                self.assertEqual(shown(one), shown(other))
                words.update(what[1] for what in said if what[0] == "refused")
        self.assertLessEqual({"InvalidLetter", "InvalidParty", "Refused", "NothingToUndo", "NothingToRedo"}, words)

    def test_the_end(self):
        for script in self.scripts:
            desk = Desk()
            play(desk, script)
            self.assertEqual(end_of(script), (desk.run(), desk.held()))
            self.assertIs(type(end_of(script)), tuple)

    def test_shortened_scripts(self):
        lengths = set()
        for script in self.scripts:
            left = list(script)
            for k in range(len(script) - 1, -1, -1):
                fewer = left[:k] + left[k + 1:]
                if end_of(fewer) == end_of(script):
                    left = fewer
            self.assertEqual([shortened(script), end_of(left)], [left, end_of(script)])
            # no try is ever needed
            self.assertNotIn("try", [command[0] for command in left])
            lengths.add((len(script), len(left)))
        self.assertGreater(len(lengths), 15)

    def test_texts(self):
        for script in self.scripts:
            text = "\n".join(self.lines(script))
            self.assertEqual([script_text(script), shown(read_script(text))], [text, shown(script)])

    def lines(self, script):
        """The lines of the text of a script."""
        for word, *things in script:
            if word in ("put", "try"):
                inner = run_text(things[0]).split("\n") if word == "put" else self.lines(things[0])
                yield word
                yield from ("  " + line for line in inner if line)
                yield "end"
            else:
                yield " ".join([word, *["none" if thing is None else thing for thing in things]])

    def test_records_are_scripts(self):
        for script in self.scripts[:60]:
            desk = Desk()
            play(desk, script)
            other = Desk()
            self.assertEqual(play(other, desk.record()), [("done",)] * len(desk.record()))
            self.assertEqual(other.record(), replayed(Desk(), desk.record()).record())


class Edges(unittest.TestCase):
    def test_an_empty_script(self):
        desk = at_work()
        before = shown(desk)
        self.assertEqual([play(desk, []), shown(desk)], [[], before])
        self.assertEqual([end_of([]), shortened([]), script_text([]), read_script("")], [(Run({}), None), [], "", []])

    def test_an_empty_try(self):
        self.assertEqual([play(Desk(), [("try", [])]), shortened([("try", [])])], [[("tried", [])], []])
        self.assertEqual([script_text([("try", [])]), read_script("try\nend")], ["try\nend", [("try", [])]])
        self.assertEqual([script_text([("put", Run({}))]), read_script("put\nend")], ["put\nend", [("put", Run({}))]])

    def test_every_command(self):
        desk = Desk()
        self.assertEqual(play(desk, ALL), [
            ("done",), ("done",), ("done",), ("done",), ("done",), ("done",), ("told", "belt"), ("told", None), ("told", []),
            ("told", []), ("done",), ("done",), ("tried", [("done",), ("tried", []), ("tried", [("done",)])])])
        self.assertEqual(desk.run(), Run(RUN))

    def test_all_refusals(self):
        script = [("undo",), ("redo",), ("take", "a"), ("send", "a", "p", "p"), ("drop", "a"), ("put", Run(RUN)),
                  ("put", Run(RUN)), ("hold", "hand")]
        self.assertEqual(play(Desk(), script), [("refused", "NothingToUndo"), ("refused", "NothingToRedo"),
                                                ("refused", "InvalidLetter"), ("refused", "InvalidParty"),
                                                ("refused", "InvalidLetter"), ("done",), ("refused", "Refused"),
                                                ("refused", "Refused")])

    def test_tries_within_tries(self):
        script = [("send", "a", "p", "q"), ("try", [("take", "a"), ("try", [("undo",), ("undo",), ("undo",), ("lying",)]),
                                                    ("lying",), ("undo",), ("lying",)]), ("lying",), ("redo",)]
        said = [("done",), ("tried", [("done",), ("tried", [("done",), ("done",), ("refused", "NothingToUndo"), ("told", [])]),
                                      ("told", []), ("done",), ("told", ["a"])]), ("told", ["a"]),
                ("refused", "NothingToRedo")]
        desk = Desk()
        self.assertEqual(play(desk, script), said)
        self.assertEqual([desk.record(), made_again(desk)], [[("send", "a", "p", "q")], []])

    def test_a_desk_that_did_something_already(self):
        desk = at_work()
        self.assertEqual(play(desk, [("redo",), ("redo",), ("lying",), ("undo",), ("held",)]),
                         [("done",), ("refused", "NothingToRedo"), ("told", ["a", "c"]), ("done",), ("told", "lanes")])
        self.assertEqual(shown(desk), shown(at_work()))
        self.assertIsNone(told(lambda: desk.undo()))
        self.assertIs(type(told(lambda: Desk().undo())), NothingToUndo)

    def test_shortened_from_the_last_command_on(self):
        # each of the two would do; the last one goes
        script = [("hold", "box"), ("hold", "box")]
        self.assertEqual(shortened(script), [("hold", "box")])
        script = [("send", "a", "p", "q"), ("undo",), ("send", "b", "p", "q"), ("kind",), ("drop", "a")]
        # when the undo is looked at, the first send still stands ahead of it
        self.assertEqual(shortened(script), [("undo",), ("send", "b", "p", "q")])
        # parties stay, so that the first two are needed
        script = [("send", "a", "p", "q"), ("drop", "a"), ("try", [("take", "b")])]
        self.assertEqual(shortened(script), script[:2])
        # the whole day but what is refused, tried or asked
        self.assertEqual(shortened(DAY), [DAY[0], DAY[2], DAY[1]])

    def test_words_of_commands_may_be_parties_and_letters(self):
        script = [("send", "end", "try", "put"), ("take", "end"), ("send", "none", "hold", "none"), ("drop", "none")]
        self.assertEqual(read_script(script_text(script)), script)
        self.assertEqual(script_text(script), "send end try put\ntake end\nsend none hold none\ndrop none")

    def test_kinds_in_texts(self):
        for kind in KINDS:
            script = [("hold", kind), ("free", kind), ("hold", None)]
            self.assertEqual(script_text(script), f"hold {kind}\nfree {kind}\nhold none")
            self.assertEqual(read_script(script_text(script)), script)

    def test_commands_four_deep(self):
        script = [("put", Run(MIXED))]
        for _ in range(4):
            script = [("try", [*script, ("kind",)]), ("undo",)]
        text = script_text(script)
        self.assertEqual([shown(read_script(text)), text.split("\n")[4]], [shown(script), "        put"])
        self.assertIn("          a: x>b a>c", text.split("\n"))

    def test_odd_objects_but_texts(self):
        for value in odd_but(""):
            outcome = told(lambda: read_script(value))
            self.assertEqual([type(outcome), outcome.value is value], [InvalidText, True])

    def test_all_short_scripts(self):
        commands = [("send", "a", "p", "q"), ("take", "a"), ("undo",), ("redo",), ("hold", "lanes"), ("put", Run(HELD)),
                    ("try", [("undo",), ("take", "a")])]
        for many in range(4):
            for script in map(list, itertools.product(commands, repeat=many)):
                one, other = Desk(), Desk()
                self.assertEqual(play(one, script), plain_play(other, script))
                self.assertEqual(end_of(script), (other.run(), other.held()))


if __name__ == "__main__":
    unittest.main()
