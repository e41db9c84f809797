"""A desk: a run that grows by commands, which can be taken back and made again."""

from postways.errors import InvalidDesk, InvalidLetter, InvalidParty, InvalidRecord, NothingToRedo, NothingToUndo
from postways.errors import Refused
from postways.kinds import check_kind, is_of, least_kind
from postways.plain import is_word
from postways.primes import behind
from postways.runs import Run, check_letter, check_run, kept, lying, receiver_of

# How many things stand behind each word in the commands of a record.
THINGS = {"send": 3, "take": 1, "drop": 1, "put": 1, "hold": 1}


class Desk:
    """A run that grows, and perhaps a kind that it holds to."""

    def __init__(self):
        # Each state tells a command, the run behind it and the kind that is held then. What was
        # taken back stands behind the place. States are never changed, so blocks and copies share them.
        self._states = ((None, Run({}), None),)
        self._place = 0

    def send(self, letter, sender, receiver):
        """Puts a send behind the sender's row."""
        if not is_word(letter) or letter in self.run().letters():
            raise InvalidLetter(letter)
        if not is_word(sender):
            raise InvalidParty(sender)
        if not is_word(receiver) or receiver == sender:
            raise InvalidParty(receiver)
        rows = self.run().rows()
        rows.setdefault(receiver, [])
        rows.setdefault(sender, []).append(("send", letter, receiver))
        self._change(("send", letter, sender, receiver), Run(rows))

    def take(self, letter):
        """Puts a take behind its receiver's row."""
        if letter not in self.lying():
            raise InvalidLetter(letter)
        self._change(("take", letter), with_take(self.run(), letter))

    def drop(self, letter):
        """Takes all deeds of a letter out."""
        check_letter(self.run(), letter)
        rest = [other for other in self.run().letters() if other != letter]
        self._change(("drop", letter), kept(self.run(), rest))

    def put(self, run):
        """Puts a run behind that of the desk."""
        check_run(run)
        self._change(("put", run), behind(self.run(), run))

    def hold(self, kind):
        """Makes the desk hold to a kind, or to none."""
        if kind is not None:
            check_kind(kind)
            if not is_of(self.run(), kind):
                raise Refused(kind)
        self._go_on(("hold", kind), self.run(), kind)

    def run(self):
        """The run."""
        return self._states[self._place][1]

    def kind(self):
        """The least kind of the run, None if it is of none."""
        return least_kind(self.run())

    def held(self):
        """The kind to which the desk holds, or None."""
        return self._states[self._place][2]

    def lying(self):
        """The ascending list of the letters that lie."""
        return lying(self.run())

    def free(self, kind):
        """The ascending list of the letters that lie and behind whose take the run would be of a kind."""
        check_kind(kind)
        return [letter for letter in self.lying() if is_of(with_take(self.run(), letter), kind)]

    def trial(self):
        """A block, behind which the desk is as it was when it was entered."""
        return Trial(self)

    def attempt(self, action):
        """What a function returns that is called with the desk in a block."""
        with self.trial() as desk:
            return action(desk)

    def copy(self):
        """A desk of its own that is the same in everything, and in no block."""
        found = Desk()
        found._states = self._states
        found._place = self._place
        return found

    def undo(self):
        """Takes back the last command."""
        if self._place == 0:
            raise NothingToUndo()
        self._place -= 1

    def redo(self):
        """Makes the command that was taken back last again."""
        if self._place + 1 == len(self._states):
            raise NothingToRedo()
        self._place += 1

    def record(self):
        """The list of the commands that are not taken back, the eldest first."""
        return [state[0] for state in self._states[1:self._place + 1]]

    def _change(self, command, run):
        # What is refused is what was passed first.
        if self.held() is not None and not is_of(run, self.held()):
            raise Refused(command[1])
        self._go_on(command, run, self.held())

    def _go_on(self, command, run, kind):
        self._states = (*self._states[:self._place + 1], (command, run, kind))
        self._place += 1


class Trial:
    """A block of a desk, which is entered once."""

    def __init__(self, desk):
        self.desk = desk
        self.states = ()
        self.place = 0

    def __enter__(self):
        self.states = self.desk._states
        self.place = self.desk._place
        return self.desk

    def __exit__(self, kind, value, trace):
        desk = self.desk
        desk._states = self.states
        desk._place = self.place


def with_take(run, letter):
    """A run with a take of a letter that lies behind its receiver's row."""
    rows = run.rows()
    rows[receiver_of(run, letter)].append(("take", letter))
    return Run(rows)


def check_desk(value):
    """Raises InvalidDesk unless any object is a desk."""
    if not isinstance(value, Desk):
        raise InvalidDesk(value)


def is_record(value):
    """Whether any object is a list of tuples of the word of a command and as many things as it takes."""
    return isinstance(value, list) and all([is_recorded(command) for command in value])


def is_recorded(value):
    """Whether any object is a tuple of the word of a command and as many things as it takes."""
    if not isinstance(value, tuple) or not value or not isinstance(value[0], str):
        return False
    return THINGS.get(value[0]) == len(value) - 1


def make(desk, command):
    """Makes a command of a record on a desk."""
    word, thing = command[:2]
    if word == "send":
        desk.send(thing, command[2], command[3])
    elif word == "take":
        desk.take(thing)
    elif word == "drop":
        desk.drop(thing)
    elif word == "put":
        desk.put(thing)
    else:
        desk.hold(thing)


def replayed(desk, record):
    """A copy of a desk on which the commands of a record were made, one after the other."""
    check_desk(desk)
    if not is_record(record):
        raise InvalidRecord(record)
    found = desk.copy()
    for command in record:
        make(found, command)
    return found
