"""What is ahead of what in every line of a run."""

from postways.errors import InvalidEvent, InvalidEvents, InvalidFront
from postways.plain import is_part_of
from postways.runs import check_party, check_run, in_turn, straight_ahead


def known_events(run):
    """The ascending list of the events of what is known to be a run."""
    return sorted(straight_ahead(run.rows()))


def bits_ahead(run):
    """For each event, ascending, the events that are ahead of it, as bits.

    Some events of a run are kept as one number, with bit k for the k-th event,
    because numbers are united and compared at once and may be keys.
    """
    return bits_over(straight_ahead(run.rows()))


def bits_over(straight):
    """For each event, ascending, those from which one comes to it over such as are straight ahead, as bits."""
    known = sorted(straight)
    bit = {event: 1 << k for k, event in enumerate(known)}
    found = {}
    for event in in_turn(straight):
        bits = 0
        for one in straight[event]:
            bits = bits | bit[one] | found[one]
        found[event] = bits
    return [found[event] for event in known]


def told_by(bits, known):
    """The list of the events that stand in bits."""
    return [event for k, event in enumerate(known) if (bits >> k) & 1]


def next_steps(front, ahead):
    """The ascending list of the positions of the events that may come behind a front, which is given as bits."""
    steps = []
    for k, bits in enumerate(ahead):
        if not (front >> k) & 1 and (front & bits) == bits:
            steps.append(k)
    return steps


def front_levels(ahead):
    """The fronts as bits: for each number of events, from 0 on, the list of those of so many."""
    levels = [[0]]
    for _ in ahead:
        level = {}
        for front in levels[-1]:
            for step in next_steps(front, ahead):
                level[front | (1 << step)] = True
        levels.append(list(level))
    return levels


def check_event(run, value):
    """Raises InvalidEvent unless any object is an event of a run."""
    if value not in known_events(run):
        raise InvalidEvent(value)


def events(run):
    """The ascending list of the events."""
    check_run(run)
    return known_events(run)


def is_ahead(run, one, other):
    """Whether an event is ahead of another one."""
    check_run(run)
    check_event(run, one)
    check_event(run, other)
    return one in all_ahead(run, other)


def all_ahead(run, event):
    """The ascending list of the events that are ahead of one."""
    check_run(run)
    check_event(run, event)
    known = known_events(run)
    return told_by(bits_ahead(run)[known.index(event)], known)


def are_beside(run, one, other):
    """Whether two events are unlike and neither is ahead of the other."""
    check_run(run)
    check_event(run, one)
    check_event(run, other)
    return other in all_beside(run, one)


def all_beside(run, event):
    """The ascending list of the events that are beside one."""
    check_run(run)
    check_event(run, event)
    known = known_events(run)
    ahead = bits_ahead(run)
    place = known.index(event)
    ordered = [(ahead[place] >> k) | (bits >> place) for k, bits in enumerate(ahead)]
    return [other for k, other in enumerate(known) if k != place and not ordered[k] & 1]


def is_front(run, value):
    """Whether any object is an ascending list of events that has with each event all that are ahead of it."""
    check_run(run)
    return is_part_of(value, known_events(run)) and least_front(run, value) == value


def fronts(run):
    """The list of all fronts, those of fewest events first, those of one length ascending."""
    check_run(run)
    known = known_events(run)
    found = []
    for level in front_levels(bits_ahead(run)):
        found.extend(sorted([told_by(front, known) for front in level]))
    return found


def many_fronts(run):
    """How many fronts there are."""
    check_run(run)
    return sum([len(level) for level in front_levels(bits_ahead(run))])


def least_front(run, events):
    """The front that has all given events and is within all others that have them."""
    check_run(run)
    known = known_events(run)
    if not is_part_of(events, known):
        raise InvalidEvents(events)
    front = 0
    for k, bits in enumerate(bits_ahead(run)):
        if known[k] in events:
            front = front | bits | (1 << k)
    return told_by(front, known)


def may_come(run, front):
    """The ascending list of the events which, put into a front, make a front."""
    check_run(run)
    if not is_front(run, front):
        raise InvalidFront(front)
    known = known_events(run)
    bits = sum([1 << k for k, event in enumerate(known) if event in front])
    return [known[step] for step in next_steps(bits, bits_ahead(run))]


def heard_of(run, party):
    """The ascending list of the letters whose sends stand in a party's row or are ahead of a deed in it."""
    check_run(run)
    check_party(run, party)
    own = sorted([(deed[1], deed[0]) for deed in run.rows()[party]])
    return [letter for letter, word in least_front(run, own) if word == "send"]
