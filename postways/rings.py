"""Rings and reasons: the papers that a run is not of a kind, and runs that bar just one kind."""

from postways.arrows import arrows_for, belt_causes, known_moments, makes_ring, reached, steps_ahead, steps_for
from postways.errors import InvalidEvent, InvalidMake
from postways.kinds import check_kind
from postways.plain import ALPHABET, are_unlike, is_pair_of
from postways.runs import Run, check_run


def moments(run):
    """The ascending list of the moments: the events, and the ends of the letters that lie."""
    check_run(run)
    return known_moments(run)


def arrows_of(run, kind):
    """The ascending list of the arrows of a kind, tuples of two moments."""
    check_run(run)
    check_kind(kind)
    return sorted(arrows_for(run, kind))


def goes_to(run, kind, moment):
    """The ascending list of the moments to which one goes."""
    check_run(run)
    check_kind(kind)
    if moment not in known_moments(run):
        raise InvalidEvent(moment)
    return reached(steps_for(run, kind))[moment]


def ring_for(run, kind):
    """A ring for a kind, of all of them a shortest one; None if there is none."""
    check_run(run)
    check_kind(kind)
    steps = steps_for(run, kind)
    return shortest_ring(steps, [pair for pair in pairs_of(steps) if makes_ring(kind, pair[0], pair[1])])


def pairs_of(steps):
    """The list of the tuples of two unlike moments, the lesser first."""
    return [(one, other) for one in steps for other in steps if one < other]


def shortest_ring(steps, pairs):
    """A shortest ring by steps over two moments that are one of some pairs, None if there is none."""
    befores = {moment: first_befores(steps, moment) for moment in steps}
    ring = None
    for one, other in pairs:
        if other in befores[one] and one in befores[other]:
            # Of the shortest ones none comes twice to a moment: half of it would do.
            closed = way_there(befores[one], other) + way_there(befores[other], one)
            if ring is None or len(closed) < len(ring):
                ring = closed
    return ring


def first_befores(steps, start):
    """The dictionary from the moments to which one goes to those ahead of them on a shortest way.

    The moment at which the ways start stands in it, with None, whether or not they come back.
    """
    befores = {start: None}
    ready = [start]
    while ready:
        further = []
        for one in ready:
            for other in steps[one]:
                if other not in befores:
                    befores[other] = one
                    further.append(other)
        ready = further
    return befores


def way_there(befores, goal):
    """The list of the moments on a shortest way, from the start on, without the goal."""
    way = []
    here = befores[goal]
    while here is not None:
        way.append(here)
        here = befores[here]
    return way[::-1]


def is_ring_for(run, kind, value):
    """Whether any object is a ring for a kind."""
    check_run(run)
    check_kind(kind)
    if not is_closed(steps_for(run, kind), value):
        return False
    return any([makes_ring(kind, value[0], moment) for moment in value[1:]])


def is_closed(steps, value):
    """Whether any object is a list of two moments or more, none twice, with a step from each to the next one."""
    if not isinstance(value, list) or len(value) < 2:
        return False
    if not all([moment in list(steps) for moment in value]) or not are_unlike(value):
        return False
    # The list begins with the step from the last one to the first.
    return all([moment in steps[value[k - 1]] for k, moment in enumerate(value)])


def least_ring(run, kind):
    """With how many moments the shortest ring is made, None if there is none."""
    ring = ring_for(run, kind)
    return None if ring is None else len(ring)


def reasons_for(run):
    """Reasons why a run is not of "belt", None if there are none."""
    check_run(run)
    grounds = grounds_of(run)
    ends = [pair for pair in grounds if pair[0] == pair[1]]
    if not ends:
        return None
    needed = {ends[0]: True}
    # What a tuple rests on stands ahead of it, so one look from the last one back finds all.
    for pair in list(grounds)[::-1]:
        if pair in needed:
            for ground in grounds[pair]:
                needed[ground] = True
    return [pair for pair in grounds if pair in needed]


def grounds_of(run):
    """The dictionary from all tuples that reasons may tell to the list of those on which each rests, these first."""
    steps, causes = steps_ahead(run), belt_causes(run)
    grounds = {(one, other): [] for one, others in steps.items() for other in others}
    many = -1
    while len(grounds) != many:
        many = len(grounds)
        for arrow, cause in causes.items():
            if cause in grounds and arrow not in grounds:
                grounds[arrow] = [cause]
        joints = joints_of(grounds)
        for first, second in joints:
            if (first[0], second[1]) not in grounds:
                grounds[(first[0], second[1])] = [first, second]
    return grounds


def joints_of(grounds):
    """The list of the tuples of two told tuples, the first of which ends where the second one begins."""
    return [(first, second) for first in grounds for second in grounds if first[1] == second[0]]


def are_reasons(run, value):
    """Whether any object is reasons why a run is not of "belt"."""
    check_run(run)
    if not isinstance(value, list) or not value:
        return False
    known, steps, causes = known_moments(run), steps_ahead(run), belt_causes(run)
    told = {}
    for pair in value:
        if not is_pair_of(pair, known):
            return False
        if pair[1] not in steps[pair[0]] and causes.get(pair) not in told and not is_joined(pair, told):
            return False
        told[pair] = True
    return value[-1][0] == value[-1][1]


def is_joined(pair, told):
    """Whether two told tuples lead from the first one of a tuple over a moment to the second one."""
    return any([(first[1], pair[1]) in told for first in told if first[0] == pair[0]])


def check_make(value):
    """Raises InvalidMake unless any object is a whole number from 2 to 25."""
    if not isinstance(value, int) or isinstance(value, bool) or not 2 <= value <= 25:
        raise InvalidMake(value)


def crown(many):
    """The run of parties in a ring, each of which sends a letter to the next one and then takes one."""
    check_make(many)
    names = ALPHABET[:many]
    rows = {}
    for k, name in enumerate(names):
        rows[name] = [("send", name, names[(k + 1) % many]), ("take", names[k - 1])]
    return Run(rows)


def detour(many):
    """The run of parties in a row: a letter goes straight to the last one, and is late behind those on the way."""
    check_make(many)
    names = ALPHABET[:many + 1]
    rows = {name: [] for name in names}
    rows[names[0]].append(("send", "far", names[-1]))
    for name, after in zip(names, names[1:]):
        rows[name].append(("send", name, after))
        rows[after].append(("take", name))
    rows[names[-1]].append(("take", "far"))
    return Run(rows)


def crossing(many):
    """The run of senders that send to two receivers each, which take what was sent first last."""
    check_make(many)
    names = ALPHABET[:many]
    rows = {}
    for k, name in enumerate(names):
        after = names[(k + 1) % many]
        rows["s" + name] = [("send", "m" + name, "r" + name), ("send", "l" + after, "r" + after)]
        rows["r" + name] = [("take", "l" + name), ("take", "m" + name)]
    return Run(rows)
