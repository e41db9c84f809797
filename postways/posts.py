"""A post at work: which letters it lets come next, and which lines and runs posts of a kind let pass."""

from postways.arrows import are_tied, steps_ahead
from postways.errors import InvalidLetter, InvalidParty, InvalidRuns, Refused
from postways.kinds import KINDS, check_kind, is_of
from postways.lines import check_line
from postways.plain import is_word
from postways.runs import Run, check_run, ways_of


class Post:
    """A post of a kind and all that came through it so far."""

    def __init__(self, kind):
        check_kind(kind)
        self._kind = kind
        self._rows = {}
        self._line = []

    def send(self, letter, sender, receiver):
        """Sends a letter from a party to another one."""
        if not is_word(letter) or (letter, "send") in self._line:
            raise InvalidLetter(letter)
        if not is_word(sender):
            raise InvalidParty(sender)
        if not is_word(receiver) or receiver == sender:
            raise InvalidParty(receiver)
        if self._kind == "hand" and self.lying():
            raise Refused(letter)
        self._rows.setdefault(receiver, [])
        self._rows.setdefault(sender, []).append(("send", letter, receiver))
        self._line.append((letter, "send"))

    def take(self, letter):
        """Takes a letter that lies."""
        if letter not in self.lying():
            raise InvalidLetter(letter)
        if letter not in self.free():
            raise Refused(letter)
        self._rows[ways_of(self._rows)[letter][1]].append(("take", letter))
        self._line.append((letter, "take"))

    def free(self):
        """The ascending list of the letters that may be taken next."""
        lying = self.lying()
        if self._kind == "hand":
            return lying
        ways, steps = ways_of(self._rows), steps_ahead(self.run())
        found = []
        for k, letter in enumerate(lying):
            tied = [one for one in lying[:k] if are_tied(self._kind, ways[one], ways[letter])]
            if self._kind == "causal":
                tied = [one for one in tied if (letter, "send") in steps[(one, "send")]]
            if not tied:
                found.append(letter)
        return sorted(found)

    def lying(self):
        """The list of the letters that lie, as they were sent."""
        return [letter for letter, word in self._line if word == "send" and (letter, "take") not in self._line]

    def line(self):
        """The list of the events, as they came."""
        return list(self._line)

    def run(self):
        """The run of all that was sent and taken."""
        return Run(self._rows)

    def kind(self):
        """The kind of the post."""
        return self._kind

    def copy(self):
        """A post that has come as far and goes on by itself."""
        found = Post(self._kind)
        found._rows = {party: list(row) for party, row in self._rows.items()}
        found._line = list(self._line)
        return found


def passes(run, kind, line):
    """Whether a new post of a kind lets all events of a line come, and for "hand" nothing lies behind them."""
    if stops_at(run, kind, line) is not None:
        return False
    return kind != "hand" or len(line) == 2 * len(run.letters())


def stops_at(run, kind, line):
    """The position of the first event of a line that a new post of a kind refuses, None if there is none."""
    check_run(run)
    check_kind(kind)
    check_line(run, line)
    post, ways = Post(kind), ways_of(run.rows())
    for place, (letter, word) in enumerate(line):
        try:
            if word == "send":
                post.send(letter, ways[letter][0], ways[letter][1])
            else:
                post.take(letter)
        except Refused:
            return place
    return None


def served_by(run, line):
    """The list of the kinds whose posts a line passes, from the widest on."""
    check_run(run)
    check_line(run, line)
    return [kind for kind in KINDS if passes(run, kind, line)]


def check_runs(value):
    """Raises InvalidRuns unless any object is a list of runs."""
    if not isinstance(value, list) or not all([isinstance(run, Run) for run in value]):
        raise InvalidRuns(value)


def least_carrying(runs):
    """The narrowest kind of which all runs of a list are, None if one of them is of none."""
    check_runs(runs)
    many = len(KINDS)
    for run in runs:
        # A run of a kind is of all wider ones, so it is enough to look down to the first kind that holds.
        while many > 0 and not is_of(run, KINDS[many - 1]):
            many -= 1
    return KINDS[many - 1] if many > 0 else None


def barred_by(runs, kind):
    """The position of the first run of a list that is not of a kind, None if all are."""
    check_runs(runs)
    check_kind(kind)
    for place, run in enumerate(runs):
        if not is_of(run, kind):
            return place
    return None


def parted_by(runs, kind, other):
    """The ascending list of the positions of the runs that are of just one of two kinds."""
    check_runs(runs)
    check_kind(kind)
    check_kind(other)
    return [place for place, run in enumerate(runs) if is_of(run, kind) != is_of(run, other)]
