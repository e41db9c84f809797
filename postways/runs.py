"""Runs: rows of deeds of parties that send one another letters."""

from postways.errors import InvalidLetter, InvalidLetters, InvalidNames, InvalidParty, InvalidRows, InvalidRun
from postways.errors import Lies, Refused
from postways.plain import ALPHABET, are_unlike, is_part_of, is_word


class Run:
    """What some parties sent to one another and took; it never changes."""

    def __init__(self, rows):
        if not is_rows(rows):
            raise InvalidRows(rows)
        self._rows = {party: list(rows[party]) for party in sorted(rows)}

    def __eq__(self, other):
        return isinstance(other, Run) and self._rows == other._rows

    def rows(self):
        """The dictionary from the parties, ascending, to their rows."""
        return {party: list(row) for party, row in self._rows.items()}

    def parties(self):
        """The ascending list of the parties."""
        return list(self._rows)

    def letters(self):
        """The ascending list of the letters."""
        return sorted(ways_of(self._rows))


def is_rows(value):
    """Whether any object is a dictionary from parties to rows of which a run can be made."""
    if not isinstance(value, dict):
        return False
    if not all([is_word(party) and is_row(row) for party, row in value.items()]):
        return False
    return are_sent_well(value) and are_taken_well(value) and can_all_come(value)


def is_row(value):
    """Whether any object is a list of deeds."""
    return isinstance(value, list) and all([is_deed(deed) for deed in value])


def is_deed(value):
    """Whether any object is a send or a take."""
    if not isinstance(value, tuple):
        return False
    if len(value) == 3:
        return value[0] == "send" and is_word(value[1]) and is_word(value[2])
    return len(value) == 2 and value[0] == "take" and is_word(value[1])


def are_sent_well(rows):
    """Whether each letter is sent once at most, and to another party of the rows."""
    sends = [(party, deed) for party, row in rows.items() for deed in row if deed[0] == "send"]
    if not are_unlike([deed[1] for _, deed in sends]):
        return False
    return all([deed[2] in rows and deed[2] != party for party, deed in sends])


def are_taken_well(rows):
    """Whether each letter is taken once at most, and by the one to whom it was sent."""
    takes = [(party, deed[1]) for party, row in rows.items() for deed in row if deed[0] == "take"]
    ways = ways_of(rows)
    if not are_unlike([letter for _, letter in takes]):
        return False
    return all([letter in ways and ways[letter][1] == party for party, letter in takes])


def can_all_come(rows):
    """Whether no deed is ahead of itself."""
    straight = straight_ahead(rows)
    return len(in_turn(straight)) == len(straight)


def straight_ahead(rows):
    """The dictionary from each event to the list of those straight ahead of it.

    These are the one before it in its row and, for a take, the send.
    """
    found = {}
    for row in rows.values():
        before = []
        for deed in row:
            event = (deed[1], deed[0])
            found[event] = before if deed[0] == "send" else [*before, (deed[1], "send")]
            before = [event]
    return found


def in_turn(straight):
    """The events, each behind those straight ahead of it; what is in a ring, or behind one, is left out."""
    waits = {event: len(straight[event]) for event in straight}
    behind = {event: [] for event in straight}
    for event in straight:
        for one in straight[event]:
            behind[one].append(event)
    ready = [event for event in waits if waits[event] == 0]
    turn = []
    while ready:
        event = ready.pop()
        turn.append(event)
        for other in behind[event]:
            waits[other] -= 1
            if waits[other] == 0:
                ready.append(other)
    return turn


def ways_of(rows):
    """The dictionary from the letters to their senders and receivers, in the order in which they stand sent."""
    return {deed[1]: (party, deed[2]) for party, row in rows.items() for deed in row if deed[0] == "send"}


def taken_in(rows):
    """The list of the letters that are taken."""
    return [deed[1] for row in rows.values() for deed in row if deed[0] == "take"]


def check_run(value):
    """Raises InvalidRun unless any object is a run."""
    if not isinstance(value, Run):
        raise InvalidRun(value)


def check_all_taken(value):
    """Raises InvalidRun unless any object is a run, and Lies if a letter of it lies."""
    check_run(value)
    if lying(value):
        raise Lies(value)


def check_letter(run, value):
    """Raises InvalidLetter unless any object is a letter of a run."""
    if value not in run.letters():
        raise InvalidLetter(value)


def check_party(run, value):
    """Raises InvalidParty unless any object is a party of a run."""
    if value not in run.parties():
        raise InvalidParty(value)


def check_names(olds, value):
    """Raises InvalidNames unless any object is a dictionary from just these names to unlike words."""
    if not isinstance(value, dict) or len(value) != len(olds):
        raise InvalidNames(value)
    news = list(value.values())
    if not all([old in value for old in olds]) or not all([is_word(new) for new in news]):
        raise InvalidNames(value)
    if not are_unlike(news):
        raise InvalidNames(value)


def sender_of(run, letter):
    """Who sent a letter."""
    check_run(run)
    check_letter(run, letter)
    return ways_of(run.rows())[letter][0]


def receiver_of(run, letter):
    """To whom a letter was sent."""
    check_run(run)
    check_letter(run, letter)
    return ways_of(run.rows())[letter][1]


def lies(run, letter):
    """Whether a letter is never taken."""
    check_run(run)
    check_letter(run, letter)
    return letter not in taken_in(run.rows())


def lying(run):
    """The ascending list of the letters that lie."""
    check_run(run)
    taken = taken_in(run.rows())
    return [letter for letter in run.letters() if letter not in taken]


def lane(run, party, other):
    """The list of the letters that a party sent to another one, as they were sent."""
    check_run(run)
    check_party(run, party)
    check_party(run, other)
    if other == party:
        raise InvalidParty(other)
    return [letter for letter, way in ways_of(run.rows()).items() if way == (party, other)]


def kept(run, letters):
    """The run of the same parties with the deeds of these letters alone."""
    check_run(run)
    if not is_part_of(letters, run.letters()):
        raise InvalidLetters(letters)
    return Run({party: [deed for deed in row if deed[1] in letters] for party, row in run.rows().items()})


def is_kept_of(one, other):
    """Whether a run is what is left of another one with some letters kept."""
    check_run(one)
    check_run(other)
    letters = one.letters()
    return is_part_of(letters, other.letters()) and kept(other, letters) == one


def called(run, names):
    """The run with its letters called otherwise."""
    check_run(run)
    check_names(run.letters(), names)
    return Run(with_names(run.rows(), names))


def with_names(rows, names):
    """Rows with their letters called otherwise."""
    found = {}
    for party, row in rows.items():
        found[party] = [(deed[0], names[deed[1]], *deed[2:]) for deed in row]
    return found


def moved(run, names):
    """The run with its parties called otherwise."""
    check_run(run)
    check_names(run.parties(), names)
    rows = {}
    for party, row in run.rows().items():
        rows[names[party]] = [moved_deed(deed, names) for deed in row]
    return Run(rows)


def moved_deed(deed, names):
    """A deed with its party, where it has one, called otherwise."""
    if deed[0] == "take":
        return deed
    return ("send", deed[1], names[deed[2]])


def named(run):
    """The run with its letters called a, b, .. by their senders, those of one sender as they were sent."""
    check_run(run)
    letters = list(ways_of(run.rows()))
    if len(letters) > len(ALPHABET):
        raise Refused(run)
    return called(run, dict(zip(letters, ALPHABET)))


def busy(run):
    """The run without the parties that have no deed and to whom nothing was sent."""
    check_run(run)
    rows = run.rows()
    receivers = [way[1] for way in ways_of(rows).values()]
    return Run({party: row for party, row in rows.items() if row or party in receivers})


def are_alike(one, other):
    """Whether two runs are equal when named and busy."""
    check_run(one)
    check_run(other)
    return busy(named(one)) == busy(named(other))


def turned_back(run):
    """The run with all rows turned about: each letter goes back from its receiver to its sender."""
    check_all_taken(run)
    ways = ways_of(run.rows())
    return Run({party: [turned_deed(deed, ways) for deed in row[::-1]] for party, row in run.rows().items()})


def turned_deed(deed, ways):
    """A send for a take, back to the sender, and a take for a send."""
    if deed[0] == "send":
        return ("take", deed[1])
    return ("send", deed[1], ways[deed[1]][0])
