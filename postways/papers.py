"""Papers: runs, lines, logs and plans as texts.

Each reader reads what it can and then looks whether the writer makes just the
text that it was passed: so it takes no other text than such.
"""

from postways.errors import InvalidLine, InvalidText, PostError
from postways.logs import check_log, is_log
from postways.plain import is_word
from postways.plans import Plan, check_plan
from postways.runs import Run, check_run, is_rows

# What a sign in front of a word tells, of events and of marks.
EVENTS = {">": "send", "<": "take"}
MARKS = {">": "to", "<": "from"}


def lines_of(text):
    """The list of the lines of a text."""
    return text.split("\n") if text else []


def set_in(lines):
    """Lines, each behind two blanks more."""
    return ["  " + line for line in lines]


def row_line(name, words):
    """The line of a name and of the words that stand behind it."""
    return " ".join([name + ":", *words])


def words_behind(line):
    """The list of the words behind the name in a line."""
    return line.partition(":")[2].split(" ")[1:]


def run_lines(run):
    """The list of the lines of the text of a run."""
    return [row_line(party, [deed_word(deed) for deed in row]) for party, row in run.rows().items()]


def deed_word(deed):
    """The word for a deed."""
    if deed[0] == "send":
        return deed[1] + ">" + deed[2]
    return "<" + deed[1]


def deed_of(word):
    """The deed for a word; for no such word no deed."""
    letter, _, party = word.partition(">")
    return ("take", word[1:]) if word[:1] == "<" else ("send", letter, party)


def run_in(lines):
    """The run that lines tell, None if these are no rows."""
    rows = {line.partition(":")[0]: [deed_of(word) for word in words_behind(line)] for line in lines}
    return Run(rows) if is_rows(rows) else None


def run_text(run):
    """The text of a run."""
    check_run(run)
    return "\n".join(run_lines(run))


def read_run(text):
    """The run of which something is the text."""
    run = run_in(lines_of(text)) if isinstance(text, str) else None
    if run is None or run_text(run) != text:
        raise InvalidText(text)
    return run


def is_event_list(value):
    """Whether any object is a list of events, whatever run they are of."""
    return isinstance(value, list) and all([is_event(event) for event in value])


def is_event(value):
    """Whether any object is a tuple of a word and "send" or "take"."""
    return isinstance(value, tuple) and len(value) == 2 and is_word(value[0]) and value[1] in ("send", "take")


def line_text(line):
    """The text of a list of events."""
    if not is_event_list(line):
        raise InvalidLine(line)
    return " ".join([(">" if word == "send" else "<") + letter for letter, word in line])


def read_line(text):
    """The list of events of which something is the text."""
    words = text.split(" ") if isinstance(text, str) and text else []
    line = [(word[1:], EVENTS.get(word[:1])) for word in words]
    if not isinstance(text, str) or not is_event_list(line):
        raise InvalidText(text)
    return line


def log_text(log):
    """The text of a log."""
    check_log(log)
    lines = []
    for party in sorted(log):
        lines.append(row_line(party, [(">" if word == "to" else "<") + other for word, other in log[party]]))
    return "\n".join(lines)


def read_log(text):
    """The log of which something is the text."""
    lines = lines_of(text) if isinstance(text, str) else []
    log = {}
    for line in lines:
        log[line.partition(":")[0]] = [(MARKS.get(word[:1]), word[1:]) for word in words_behind(line)]
    if not is_log(log) or log_text(log) != text:
        raise InvalidText(text)
    return log


def plan_text(plan):
    """The text of a plan."""
    check_plan(plan)
    lines, ways = [], plan.ways()
    for name, run in plan.pieces().items():
        first = "*" if name in plan.firsts() else ""
        last = "." if name in plan.lasts() else ""
        lines.append(row_line(name + first + last, ways[name]))
        lines.extend(set_in(run_lines(run)))
    return "\n".join(lines)


def read_plan(text):
    """The plan of which something is the text."""
    plan = plan_in(lines_of(text)) if isinstance(text, str) else None
    if plan is None or plan_text(plan) != text:
        raise InvalidText(text)
    return plan


def plan_in(lines):
    """The plan that lines tell, None if what they tell is none."""
    pieces, ways, firsts, lasts = {}, {}, [], []
    for head, rows in headed(lines):
        signs = head.partition(":")[0]
        name = signs.rstrip("*.")
        pieces[name] = run_in(rows)
        ways[name] = words_behind(head)
        if "*" in signs:
            firsts.append(name)
        if "." in signs:
            lasts.append(name)
    try:
        return Plan(pieces, ways, firsts, lasts)
    except PostError:
        return None


def headed(lines):
    """The list of the tuples of a line and of those behind it that are set in, without their two blanks."""
    found = []
    for line in lines:
        if line[:2] == "  " and found:
            found[-1][1].append(line[2:])
        else:
            found.append((line, []))
    return found
