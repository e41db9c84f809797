"""Scripts: lists of commands for a desk, what is said when they are played, and their texts."""

from postways.desk import Desk, check_desk, make
from postways.errors import InvalidScript, InvalidText, PostError
from postways.kinds import KINDS
from postways.papers import headed, lines_of, run_in, run_lines, set_in
from postways.plain import is_word
from postways.runs import Run

# What stands behind each word in a command.
SORTS = {
    "send": ("word", "word", "word"), "take": ("word",), "drop": ("word",), "put": ("run",), "hold": ("kind or none",),
    "kind": (), "held": (), "lying": (), "free": ("kind",), "undo": (), "redo": (), "try": ("script",),
}
ASKING = ("kind", "held", "lying", "free")


def is_script(value):
    """Whether any object is a list of commands."""
    if not isinstance(value, list):
        return False
    for command in value:
        if not is_command(command):
            return False
    return True


def is_command(value):
    """Whether any object is a command of a script."""
    if not isinstance(value, tuple) or not value or not isinstance(value[0], str):
        return False
    sorts = SORTS.get(value[0])
    if sorts is None or len(value) != len(sorts) + 1:
        return False
    if value[0] == "try":
        return is_script(value[1])
    return all([is_of_sort(sort, thing) for sort, thing in zip(sorts, value[1:])])


def is_of_sort(sort, value):
    """Whether any object is a word, a run or a kind, as it is asked for."""
    if sort == "word":
        return is_word(value)
    if sort == "run":
        return isinstance(value, Run)
    return value in KINDS or (sort == "kind or none" and value is None)


def check_script(value):
    """Raises InvalidScript unless any object is a script."""
    if not is_script(value):
        raise InvalidScript(value)


def play(desk, script):
    """Carries a script out on a desk, which it changes, and returns what is said to each command."""
    check_desk(desk)
    check_script(script)
    return said_to(desk, script)


def said_to(desk, script):
    """What is said to each command of what is known to be a script."""
    said = []
    for command in script:
        try:
            said.append(said_to_one(desk, command))
        except PostError as error:
            said.append(("refused", error.__class__.__name__))
    return said


def said_to_one(desk, command):
    """What is said to a command that raises no error."""
    word = command[0]
    if word == "try":
        with desk.trial():
            return ("tried", said_to(desk, command[1]))
    if word in ASKING:
        return ("told", answer(desk, command))
    if word == "undo":
        desk.undo()
    elif word == "redo":
        desk.redo()
    else:
        make(desk, command)
    return ("done",)


def answer(desk, command):
    """What a desk returns where a command asks."""
    word = command[0]
    if word == "kind":
        return desk.kind()
    if word == "held":
        return desk.held()
    return desk.lying() if word == "lying" else desk.free(command[1])


def end_of(script):
    """The tuple of the run and of the kind that is held, when a script was played on a new desk."""
    check_script(script)
    desk = Desk()
    said_to(desk, script)
    return (desk.run(), desk.held())


def shortened(script):
    """What is left of a script when, from the last command on, each is left out that the end does not need."""
    end = end_of(script)
    # The end needs no try, so what is left shares no list with what was passed.
    left = list(script)
    for k in reversed(range(len(script))):
        part = left[:k] + left[k + 1:]
        if end_of(part) == end:
            left = part
    return left


def script_text(script):
    """The text of a script."""
    check_script(script)
    return "\n".join(script_lines(script))


def script_lines(script):
    """The list of the lines of the text of a script."""
    lines = []
    for command in script:
        if command[0] == "put":
            lines.extend(["put", *set_in(run_lines(command[1])), "end"])
        elif command[0] == "try":
            lines.extend(["try", *set_in(script_lines(command[1])), "end"])
        else:
            lines.append(" ".join(["none" if word is None else word for word in command]))
    return lines


def read_script(text):
    """The script of which something is the text."""
    script = script_in(lines_of(text)) if isinstance(text, str) else None
    # What was read leniently is looked at as a whole: whether it is a script, and of this very text.
    if not is_script(script) or "\n".join(script_lines(script)) != text:
        raise InvalidText(text)
    return script


def script_in(lines):
    """The list of the commands that lines tell; where they tell none, of other things."""
    script = []
    for line, inner in headed(lines):
        if line == "put":
            script.append(("put", run_in(inner)))
        elif line == "try":
            script.append(("try", script_in(inner)))
        elif line != "end":
            script.append(command_of(line))
    return script


def command_of(line):
    """The command of a line of words."""
    word, *things = line.split(" ")
    if word == "hold" and things == ["none"]:
        return ("hold", None)
    return (word, *things)
