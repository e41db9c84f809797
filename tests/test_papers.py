"""[96] to [98]: texts of runs, lines, logs and plans, and what is read of them."""

import random
import unittest

from postways.errors import InvalidLine, InvalidLog, InvalidPlan, InvalidRun, InvalidText
from postways.lines import first_line
from postways.logs import log_of
from postways.papers import line_text, log_text, plan_text, read_line, read_log, read_plan, read_run, run_text
from postways.plans import Plan
from postways.rings import crossing, crown, detour
from postways.runs import Run, lying
from tests.calls import Call, CallCase, EachCall, call_of, odd_but, told
from tests.samples import CROSSED, EXAMPLE, HELD, MIXED, chain, chance_rows, deep, small_rows
from tests.test_plans import ASK, BOTH, WAYS, chance_plan, example

RUN = {"p": [("send", "a", "q"), ("take", "b")], "q": [("send", "b", "p"), ("take", "a")], "r": []}
LINE = [("a", "send"), ("b", "send"), ("b", "take")]
LOG = {"p": [("to", "q"), ("from", "q")], "q": []}
RUN_TEXT = "p: a>q <b\nq: b>p <a\nr:"
LINE_TEXT = ">a >b <b"
LOG_TEXT = "p: >q <q\nq:"
PLAN_TEXT = "ask*.: ask both\n  p: x>q\n  q: <x\nboth.:\n  p: x>q <y\n  q: y>p <x\nmore: ask\n  p: x>q\n  q: <x"
CALLS = [
    Call(run_text, ("run", lambda: Run(RUN), InvalidRun)),
    Call(read_run, ("text", lambda: RUN_TEXT, InvalidText)),
    Call(line_text, ("line", lambda: list(LINE), InvalidLine)),
    Call(read_line, ("text", lambda: LINE_TEXT, InvalidText)),
    Call(log_text, ("log", lambda: {party: list(marks) for party, marks in LOG.items()}, InvalidLog)),
    Call(read_log, ("text", lambda: LOG_TEXT, InvalidText)),
    Call(plan_text, ("plan", example, InvalidPlan)),
    Call(read_plan, ("text", lambda: PLAN_TEXT, InvalidText)),
]
READERS = [read_run, read_line, read_log, read_plan]
GOOD = {InvalidText: [""], InvalidLine: [[], [("x", "send")]], InvalidLog: [{}, {"a": []}]}
SIGNS = "ab:<>*. \n\tAz1~"


def bent(text):
    """Texts that are bent in one place: a sign more, less, doubled or another one, or a line more or less."""
    for k in range(len(text) + 1):
        yield text[:k] + text[k + 1:]
        for sign in SIGNS:
            yield text[:k] + sign + text[k:]
            yield text[:k] + sign + text[k + 1:]
    lines = text.split("\n")
    for k in range(len(lines) + 1):
        yield "\n".join(lines[:k] + [""] + lines[k:])
        yield "\n".join(lines[:k] + lines[k + 1:])
        yield "\n".join(lines[:k] + lines[k:k + 2][::-1] + lines[k + 2:])
        yield "\n".join(lines[:k] + lines[k - 1:k] + lines[k:])
    yield from (text + "\n", "\n" + text, text + " ", " " + text, text.upper(), text[::-1], text.replace(" ", "  "))


class Examples(unittest.TestCase):
    def test_the_block_of_the_document(self):
        run = Run({"p": [("send", "a", "q"), ("take", "b")], "q": [("send", "b", "p"), ("take", "a")], "r": []})
        self.assertEqual(
            [run_text(run), read_run(run_text(run)) == run, line_text([("a", "send"), ("b", "send"), ("b", "take")]),
             log_text({"p": [("to", "q"), ("from", "q")], "q": []})],
            ['p: a>q <b\nq: b>p <a\nr:', True, '>a >b <b', 'p: >q <q\nq:'])


class Wrong(EachCall, CallCase):
    calls, good = CALLS, GOOD

    def test_lists_that_are_no_events(self):
        wrongs = [(("a", "send"),), [["a", "send"]], [("a", "lie")], [("a",)], [("a", "send", "b")], [("A", "send")],
                  [("a ", "send")], [("", "send")], ["a"], [("a", "send"), None], {"a": "send"}, [("send", "a")], None,
                  [("a", "Send")], [(True, "send")], [("a", True)], [("a", ["send"])], [("abcdefghi", "take")],
                  [(("a", "send"),)], "a", Run(RUN), [("a", "take ")], [(["a"], "send")], deep(lambda x: [x]),
                  [("a", ("send",))], [("a", "to")]]
        self.check_wrong(call_of(CALLS, line_text), 0, wrongs)

    def test_dictionaries_that_are_no_logs(self):
        wrongs = [{"p": [("to", "q")]}, {"p": [("to", "p")]}, {"p": [("to", "q")] * 27, "q": []}, {"P": []}, {"p": ()},
                  {"p": [["to", "q"]], "q": []}, [], {"p": [("send", "q")], "q": []}, None, Run(RUN)]
        self.check_wrong(call_of(CALLS, log_text), 0, wrongs)

    def test_objects_that_are_no_texts(self):
        wrongs = [[RUN_TEXT], (RUN_TEXT,), {RUN_TEXT: 1}, None, [], (), {}, False, 0, Run({}), Plan({}, {}, [], []), ["", ""]]
        for reader in READERS:
            self.check_wrong(call_of(CALLS, reader), 0, wrongs)

    def test_texts_of_other_things(self):
        texts = {read_run: RUN_TEXT, read_line: LINE_TEXT, read_log: LOG_TEXT, read_plan: PLAN_TEXT}
        for reader in READERS:
            for other, text in texts.items():
                if other is not reader:
                    self.check_wrong(call_of(CALLS, reader), 0, [text])

    def test_texts_of_no_rows(self):
        wrongs = ["p", "p: a>q", "p: <a", "p: a>p", "p: a>q\nq: <a <a", "p: a>q a>q\nq:", "p: <a a>q\nq: <a", "q:\np:",
                  "p: <b a>q\nq: <a b>p", "p:\np:", "P:", ":", "p :", "p: ", "p:  a>q\nq:", "p: a>q  <b\nq: b>p",
                  "p: a>q\nq: <a\n", "\np:", "p:\n\nq:", " p:", "p: a >q\nq:", "p: >q\nq:", "p: a>\nq:", "p: a>q>r\nq:\nr:",
                  "p:a>q\nq:", "p: a>q\tq:", "p:\r\nq:", "p: a<q\nq:", "p: <a>q\nq:", "p: a>Q\nQ:", "abcdefghi:", "p:\tq",
                  "p:: a>q\nq:", "p: a>q:\nq:", " ", "\n", "p: <a\nq: a>r\nr:"]
        self.check_wrong(call_of(CALLS, read_run), 0, wrongs)

    def test_texts_of_no_events(self):
        wrongs = [" ", "a", ">", "<", ">a ", " >a", ">a  <a", ">A", "a>", ">a\n<a", ">>a", "><a", ">a<a", ">abcdefghi", ">a.",
                  ">a\t<a", ">a, <a", "\n", ">a\n", "send", ">1"]
        self.check_wrong(call_of(CALLS, read_line), 0, wrongs)
        self.assertEqual(read_line(">a >a <b"), [("a", "send"), ("a", "send"), ("b", "take")])

    def test_texts_of_no_logs(self):
        many = " ".join(["p:"] + [">q"] * 27) + "\nq:"
        wrongs = [many, "p: >q", "p: >p", "p: q", "q:\np:", "p:\np:", "p: >q \nq:", "p:>q\nq:", "p: >q\nq:\n", "P:", ":", " ",
                  "p: > q\nq:", "p: a>q\nq:", "p: <q", "p: >>q\nq:", "p:  >q\nq:", "p", "\n", "p:\n\nq:"]
        self.check_wrong(call_of(CALLS, read_log), 0, wrongs)
        self.assertEqual(len(read_log(many.replace(" >q", "", 1))["p"]), 26)

    def test_texts_of_no_plans(self):
        wrongs = ["ask", "ask: both", "ask.*:", "ask**:", "ask..:", "*ask:", "ask*.: ask ask", "b:\na:", "a:\na:", "a: b a\nb:",
                  "a:\n p: x>q\n q: <x", "a:\n   p: x>q\n   q: <x", "a:\n  p: x>q\n  q:", "  p:", "a:\n  q:\n  p:", "a:\n  ",
                  "a:\n\n  p:", "a:\n  p:\n", "a: ", "a:b\nb:", "A:", ":", "*:", "a :", "a *:", "a* .:", "a:\n  p: x>q\n  q: <y",
                  "a:\n  p: <y x>q\n  q: <x y>p", "abcdefghi:", "a: a  a", " ", "\n", "a*:\n  p: x>q\nq:"]
        self.check_wrong(call_of(CALLS, read_plan), 0, wrongs)


class Bent(CallCase):
    """Texts bent in one place: each is refused with the very text, or is the text of what is read."""

    def check_bent(self, reader, writer, text):
        refused = 0
        for wrong in bent(text):
            outcome = told(lambda: reader(wrong))
            if type(outcome) is InvalidText:
                refused += 1
                self.assertIs(outcome.value, wrong)
            else:
                self.assertEqual(writer(outcome), wrong)
        self.assertGreater(refused, 20)

    def test_runs(self):
        for rows in (RUN, MIXED, HELD, {"a": []}, {}):
            self.check_bent(read_run, run_text, run_text(Run(rows)))

    def test_lines(self):
        for line in (LINE, [("a", "take")], []):
            self.check_bent(read_line, line_text, line_text(line))

    def test_logs(self):
        for log in (LOG, log_of(Run(MIXED)), {"a": []}, {}):
            self.check_bent(read_log, log_text, log_text(log))

    def test_plans(self):
        for plan in (example(), Plan({}, {}, [], []), Plan({"a": Run({}), "b": Run({"p": []})}, {"a": [], "b": ["a"]},
                                                           ["a", "b"], ["b"])):
            self.check_bent(read_plan, plan_text, plan_text(plan))


class EachReaderAgainstItsWriter(unittest.TestCase):
    @classmethod
    def setUpClass(cls):
        chance = random.Random(96)
        rows = [*small_rows(), MIXED, RUN, *[chance_rows(chance, 8, 8) for _ in range(10)]]
        cls.runs = [Run(some) for some in rows] + [crown(25), detour(9), crossing(9), chain(30)]
        cls.chance = chance

    def test_runs(self):
        for run in self.runs:
            lines = []
            for party, row in run.rows().items():
                words = ["<" + deed[1] if deed[0] == "take" else f"{deed[1]}>{deed[2]}" for deed in row]
                lines.append(party + ":" + "".join(" " + word for word in words))
            self.assertEqual(run_text(run), "\n".join(lines))
            self.assertEqual(read_run("\n".join(lines)), run)

    def test_lines(self):
        for run in self.runs:
            line = first_line(run) if len(run.letters()) < 9 else [(letter, "send") for letter in run.letters()]
            text = " ".join({"send": ">", "take": "<"}[word] + letter for letter, word in line)
            self.assertEqual([line_text(line), read_line(text)], [text, line])

    def test_logs(self):
        for run in self.runs:
            if len(run.letters()) < 27:
                log = log_of(run)
                text = "\n".join(" ".join([party + ":"] + [{"to": ">", "from": "<"}[word] + other for word, other in marks])
                                 for party, marks in log.items())
                self.assertEqual([log_text(log), read_log(text)], [text, log])
                self.assertEqual(log_text({party: log[party] for party in list(log)[::-1]}), text)

    def test_plans(self):
        made = [run for run in self.runs if not lying(run) and len(run.letters()) < 5]
        for k in range(60):
            plan = chance_plan(self.chance, 1 + k % 4, made)
            lines = []
            for name, run in plan.pieces().items():
                marks = "*" * (name in plan.firsts()) + "." * (name in plan.lasts())
                lines.append(f"{name}{marks}:" + "".join(" " + other for other in plan.ways()[name]))
                lines.extend("  " + line for line in run_text(run).split("\n") if run.parties())
            text = "\n".join(lines)
            self.assertEqual([plan_text(plan), read_plan(text)], [text, plan])


class Edges(unittest.TestCase):
    def test_things_without_anything_in_them(self):
        plan = Plan({}, {}, [], [])
        self.assertEqual([run_text(Run({})), line_text([]), log_text({}), plan_text(plan)], [""] * 4)
        self.assertEqual([read_run(""), read_line(""), read_log(""), read_plan("")], [Run({}), [], {}, plan])

    def test_idle_parties(self):
        self.assertEqual([run_text(Run({"b": [], "a": []})), read_run("a:\nb:")], ["a:\nb:", Run({"a": [], "b": []})])
        self.assertEqual([log_text({"b": [], "a": []}), read_log("a:\nb:")], ["a:\nb:", {"a": [], "b": []}])

    def test_the_plan_of_the_section_on_plans(self):
        self.assertEqual(plan_text(example()), PLAN_TEXT)
        plan = read_plan(PLAN_TEXT)
        self.assertEqual([plan, plan.ways(), plan.firsts(), plan.lasts()], [example(), WAYS, ["ask"], ["ask", "both"]])
        self.assertEqual([plan.pieces()["both"], plan.pieces()["more"]], [Run(BOTH), Run(ASK)])

    def test_pieces_without_parties_have_no_lines(self):
        plan = Plan({"a": Run({}), "b": Run({"p": []}), "c": Run({})}, {"a": ["c"], "b": ["a", "b", "c"], "c": []},
                    ["c"], ["a", "c"])
        text = "a.: c\nb: a b c\n  p:\nc*.:"
        self.assertEqual([plan_text(plan), read_plan(text)], [text, plan])

    def test_names_that_end_in_each_letter(self):
        names = list("abcdefghijklmnopqrstuvwxyz")
        plan = Plan({name: Run({}) for name in names}, {name: [name] for name in names}, names, names[1:])
        text = "\n".join(["a*: a", *[f"{name}*.: {name}" for name in names[1:]]])
        self.assertEqual([plan_text(plan), read_plan(text)], [text, plan])

    def test_pieces_in_which_a_letter_lies_are_no_plan(self):
        text = "a:\n  p: x>q\n  q:"
        self.assertEqual(read_run("p: x>q\nq:"), Run({"p": [("send", "x", "q")], "q": []}))
        outcome = told(lambda: read_plan(text))
        self.assertEqual([type(outcome), outcome.value is text], [InvalidText, True])

    def test_letters_that_lie_in_texts_of_runs(self):
        for rows in (HELD, MIXED, EXAMPLE, CROSSED):
            self.assertEqual(read_run(run_text(Run(rows))).rows(), Run(rows).rows())

    def test_odd_objects_but_texts(self):
        for value in odd_but(""):
            for reader in READERS:
                outcome = told(lambda: reader(value))
                self.assertIs(type(outcome), InvalidText)
                self.assertIs(outcome.value, value)


if __name__ == "__main__":
    unittest.main()
