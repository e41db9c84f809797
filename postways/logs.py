"""Logs without names: who sent and took how often, in which order, but not which letters these were."""

from postways.errors import InvalidLog, Refused
from postways.kinds import least_kind
from postways.lines import check_line
from postways.plain import ALPHABET, is_word
from postways.runs import Run, check_letter, check_run, is_rows, lies, ways_of


def check_log(value):
    """Raises InvalidLog unless any object is a log."""
    if not is_log(value):
        raise InvalidLog(value)


def is_log(value):
    """Whether any object is a dictionary from parties to lists of marks, with at most 26 marks "to"."""
    if not isinstance(value, dict) or not all([is_word(party) and isinstance(value[party], list) for party in value]):
        return False
    if not all([is_mark(mark, party, value) for party, marks in value.items() for mark in marks]):
        return False
    return len([mark for marks in value.values() for mark in marks if mark[0] == "to"]) <= len(ALPHABET)


def is_mark(value, party, log):
    """Whether any object is a mark of another party of a log."""
    if not isinstance(value, tuple) or len(value) != 2 or value[0] not in ("to", "from"):
        return False
    # A word is looked for first: only such can be a key.
    return is_word(value[1]) and value[1] in log and value[1] != party


def marks_of(run):
    """The dictionary from the parties to the lists of the marks of their deeds."""
    rows = run.rows()
    ways = ways_of(rows)
    return {party: [mark_of(deed, ways) for deed in row] for party, row in rows.items()}


def mark_of(deed, ways):
    """The mark of a deed."""
    if deed[0] == "send":
        return ("to", deed[2])
    return ("from", ways[deed[1]][0])


def log_of(run):
    """The log of a run."""
    check_run(run)
    if len(run.letters()) > len(ALPHABET):
        raise Refused(run)
    return marks_of(run)


def fits(log, run):
    """Whether a log is that of a run."""
    check_log(log)
    check_run(run)
    return marks_of(run) == log


def sends_told(log):
    """The dictionary from the lanes to the lists of the letters that are sent in each, named by their senders."""
    found, many = {}, 0
    for party in sorted(log):
        for word, other in log[party]:
            if word == "to":
                found.setdefault((party, other), []).append(ALPHABET[many])
                many += 1
    return found


def takes_told(log):
    """The dictionary from the lanes in which letters are taken to how many these are."""
    found = {}
    for party, marks in log.items():
        for word, other in marks:
            if word == "from":
                found[(other, party)] = found.get((other, party), 0) + 1
    return found


def has_sends(log):
    """Whether in no lane more letters are taken than sent."""
    sends = sends_told(log)
    return all([many <= len(sends.get(lane, [])) for lane, many in takes_told(log).items()])


def rows_by(log, sends, takes):
    """The rows of a log, if in each lane these letters are sent and these are taken, in this order; perhaps no rows."""
    sent, taken, rows = {}, {}, {}
    for party in sorted(log):
        rows[party] = []
        for word, other in log[party]:
            if word == "to":
                place = sent.get((party, other), 0)
                rows[party].append(("send", sends[(party, other)][place], other))
                sent[(party, other)] = place + 1
            else:
                place = taken.get((other, party), 0)
                rows[party].append(("take", takes[(other, party)][place]))
                taken[(other, party)] = place + 1
    return rows


def choices_of(letters, many):
    """The list of all lists of so many unlike letters, in whatever order."""
    found = [[]]
    for _ in range(many):
        found = [[*some, letter] for some in found for letter in letters if letter not in some]
    return found


def all_takes(log):
    """The list of the dictionaries from the lanes to the letters taken in each, for all that can be taken."""
    sends = sends_told(log)
    found = [{}]
    for lane, many in takes_told(log).items():
        choices = choices_of(sends.get(lane, []), many)
        found = [{**takes, lane: letters} for takes in found for letters in choices]
    return found


def fitting(log):
    """The list of all named runs that fit a log, ascending by the lists of their rows."""
    check_log(log)
    sends = sends_told(log)
    # The parties of all are the same, so the lists of the rows tell them apart.
    rows = [rows_by(log, sends, takes) for takes in all_takes(log)]
    return [Run(some) for some in sorted(rows, key=lists_of) if is_rows(some)]


def lists_of(rows):
    """The list of the lists of rows, parties ascending."""
    return [rows[party] for party in sorted(rows)]


def many_fitting(log):
    """How many named runs fit a log."""
    return len(fitting(log))


def lanes_run(log):
    """The named run that fits a log and in which each lane's letters are taken as they are sent, None if none does."""
    check_log(log)
    if not has_sends(log):
        return None
    sends = sends_told(log)
    rows = rows_by(log, sends, sends)
    return Run(rows) if is_rows(rows) else None


def marks_along(run, line):
    """The list of the tuples of a party and its mark along a line."""
    check_run(run)
    check_line(run, line)
    ways = ways_of(run.rows())
    found = []
    for letter, word in line:
        sender, receiver = ways[letter]
        found.append((sender, ("to", receiver)) if word == "send" else (receiver, ("from", sender)))
    return found


def done_of(log):
    """The dictionary from the parties to how many marks each has gone past when none can go on."""
    check_log(log)
    done, lying = {party: 0 for party in sorted(log)}, {}
    many = -1
    while sum(list(done.values())) != many:
        many = sum(list(done.values()))
        for party, marks in log.items():
            done[party] = gone_past(party, marks, done[party], lying)
    return done


def gone_past(party, marks, place, lying):
    """To which place a party goes on from another one; what lies in each lane is changed by this."""
    while place < len(marks):
        word, other = marks[place]
        if word == "to":
            lying[(party, other)] = lying.get((party, other), 0) + 1
        elif lying.get((other, party), 0) > 0:
            lying[(other, party)] -= 1
        else:
            return place
        place += 1
    return place


def waits_at(log):
    """The dictionary from the parties that are not through to the mark at which each stands then."""
    return {party: log[party][place] for party, place in done_of(log).items() if place < len(log[party])}


def kind_of_log(log):
    """The least kind of a post that can have carried what a log tells, None if there is none."""
    run = lanes_run(log)
    return None if run is None else least_kind(run)


def same_log(one, other):
    """Whether two runs have the same log."""
    check_run(one)
    check_run(other)
    return marks_of(one) == marks_of(other)


def changed_about(run, letter, other):
    """The run in which either of two letters of one lane is taken, if it is, in the place of the other one."""
    check_run(run)
    check_letter(run, letter)
    check_letter(run, other)
    ways = ways_of(run.rows())
    if letter == other or ways[letter] != ways[other] or (lies(run, letter) and lies(run, other)):
        raise Refused(other)
    swapped = {letter: other, other: letter}
    rows = {party: [changed_deed(deed, swapped) for deed in row] for party, row in run.rows().items()}
    if not is_rows(rows):
        raise Refused(other)
    return Run(rows)


def changed_deed(deed, swapped):
    """A deed, with the other letter taken where one of two is."""
    if deed[0] == "send":
        return deed
    return ("take", swapped.get(deed[1], deed[1]))
