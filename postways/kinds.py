"""Kinds of posts: which lines serve them, and which runs are of them."""

from postways.ahead import check_event, known_events, next_steps
from postways.arrows import are_tied, belt_causes, belt_steps, bits_among, has_ring, reached, steps_ahead, steps_for
from postways.arrows import with_arrows
from postways.errors import InvalidKind, Refused
from postways.lines import check_line, is_line, least_order, ways_on
from postways.runs import check_run, kept, ways_of

KINDS = ("lanes", "causal", "box", "outbox", "belt", "hand")


def check_kind(value):
    """Raises InvalidKind unless any object is a kind."""
    if value not in KINDS:
        raise InvalidKind(value)


def serves(run, kind, line):
    """Whether a line serves a kind."""
    return not out_of_order(run, kind, line)


def out_of_order(run, kind, line):
    """The ascending list of the tuples of letters that are not in order in a line though the kind wants it."""
    check_run(run)
    check_kind(kind)
    check_line(run, line)
    if kind == "hand":
        return [(letter,) for letter in run.letters() if not is_handed(letter, line)]
    return sorted([pair for pair in pairs_wanted(run, kind, line) if overtakes(pair, line)])


def is_handed(letter, line):
    """Whether behind the send of a letter its take stands next."""
    place = line.index((letter, "send"))
    return line[place + 1:place + 2] == [(letter, "take")]


def pairs_wanted(run, kind, line):
    """The list of the tuples of two letters that a kind wants in order, the one sent earlier in a line first."""
    ways, steps = ways_of(run.rows()), steps_ahead(run)
    sends = [event for event in line if event[1] == "send"]
    found = []
    for k, one in enumerate(sends):
        for other in sends[k + 1:]:
            if are_tied(kind, ways[one[0]], ways[other[0]]) and (kind != "causal" or other in steps[one]):
                found.append((one[0], other[0]))
    return found


def overtakes(pair, line):
    """Whether the second one of two letters is taken ahead of the end of the first."""
    first, second = (pair[0], "take"), (pair[1], "take")
    if second not in line:
        return False
    return first not in line or line.index(second) < line.index(first)


def is_of(run, kind):
    """Whether some line of a run serves a kind."""
    check_run(run)
    check_kind(kind)
    return not has_ring(kind, reached(steps_for(run, kind)))


def kinds_of(run):
    """The list of the kinds of which a run is, from the widest on."""
    check_run(run)
    return [kind for kind in KINDS if is_of(run, kind)]


def least_kind(run):
    """The narrowest kind of which a run is, None if it is of none."""
    kinds = kinds_of(run)
    return kinds[-1] if kinds else None


def line_for(run, kind):
    """A line that serves a kind, None if there is none."""
    if not is_of(run, kind):
        return None
    if kind == "hand":
        sends = sends_of(run)
        order = least_order(bits_among(sends, reached(steps_for(run, kind))))
        return [event for k in order for event in (sends[k], (sends[k][0], "take"))]
    known = known_events(run)
    steps = settled_steps(run) if kind == "belt" else steps_for(run, kind)
    return [known[k] for k in least_order(bits_among(known, reached(steps)))]


def sends_of(run):
    """The ascending list of the sends."""
    return [(letter, "send") for letter in run.letters()]


def settled_steps(run):
    """Steps for "belt" with arrows more, such that of any two sends the one goes to the other.

    Where neither does, either may: an arrow from the one to the other never
    makes a ring. Then all ends follow, so that each order serves "belt".
    """
    causes = belt_causes(run)
    steps = belt_steps(steps_ahead(run), causes)
    sends = sends_of(run)
    for k, one in enumerate(sends):
        for other in sends[k + 1:]:
            goes = reached(steps)
            if other not in goes[one] and one not in goes[other]:
                steps = belt_steps(with_arrows(steps, [(one, other)]), causes)
    return steps


def is_line_for(run, kind, value):
    """Whether any object is a line that serves a kind."""
    check_run(run)
    check_kind(kind)
    return is_line(run, value) and serves(run, kind, value)


def many_lines_for(run, kind):
    """How many lines serve a kind."""
    if not is_of(run, kind):
        return 0
    goes = reached(steps_for(run, kind))
    if kind == "belt":
        return many_belt_lines(known_events(run), goes)
    # From hand to hand the two events of a letter come as one.
    members = sends_of(run) if kind == "hand" else known_events(run)
    return ways_on(bits_among(members, goes))[0]


def many_belt_lines(known, goes):
    """How many orders of all events there are in which the letters are taken as they were sent."""
    ahead = bits_among(known, goes)
    # For each front as bits, how many ways there are to it by the letters that lie then, as they were sent.
    ways = {0: {(): 1}}
    for _ in known:
        further = {}
        for front, queues in ways.items():
            for step in next_steps(front, ahead):
                there = further.setdefault(front | (1 << step), {})
                for queue, many in queues_behind(queues, known[step]).items():
                    there[queue] = there.get(queue, 0) + many
        ways = further
    return sum([many for queues in ways.values() for many in queues.values()])


def queues_behind(queues, event):
    """The queues, with their numbers, as they are behind an event; a take leaves those of which it takes the first."""
    letter, word = event
    if word == "send":
        return {(*queue, letter): many for queue, many in queues.items()}
    return {queue[1:]: many for queue, many in queues.items() if queue[0] == letter}


def always_ahead(run, kind, one, other):
    """Whether an event stands earlier than another one in every line that serves a kind."""
    check_run(run)
    check_kind(kind)
    check_event(run, one)
    check_event(run, other)
    if not is_of(run, kind):
        raise Refused(kind)
    if one[0] == other[0]:
        # For "hand" the events of one letter go to one another, and the send is ahead all the same.
        return one[1] == "send" and other[1] == "take"
    return other in reached(steps_for(run, kind))[one]


def kinds_kept(run, letters):
    """The list of the kinds of what is kept of a run."""
    return kinds_of(kept(run, letters))
