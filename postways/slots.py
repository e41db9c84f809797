"""Slots: how many letters lie in a lane at once, and which lines keep to what the lanes can hold."""

from postways.ahead import bits_ahead, front_levels, known_events, next_steps
from postways.arrows import bits_among, reached, steps_ahead, with_arrows
from postways.errors import InvalidLane, InvalidSlots
from postways.lines import check_line, is_line, least_order, lying_along
from postways.plain import is_count
from postways.rings import is_closed, pairs_of, shortest_ring
from postways.runs import check_run, taken_in, ways_of


def check_lane(run, value):
    """Raises InvalidLane unless any object is a lane of a run."""
    if value not in lanes_of(run):
        raise InvalidLane(value)


def check_slots(run, value):
    """Raises InvalidSlots unless any object is slots of a run."""
    if not is_slots(run, value):
        raise InvalidSlots(value)


def is_slots(run, value):
    """Whether any object is a dictionary from just the lanes of a run to counts from 1 on."""
    lanes = lanes_of(run)
    if not isinstance(value, dict) or len(value) != len(lanes):
        return False
    return all([lane in value and is_count(value[lane]) and value[lane] > 0 for lane in lanes])


def lanes_of(run):
    """The ascending list of the lanes."""
    check_run(run)
    return sorted(set(list(ways_of(run.rows()).values())))


def lying_in(run, line):
    """The dictionary from the lanes to the greatest number of letters that lie in each at once along a line."""
    check_run(run)
    check_line(run, line)
    ways = ways_of(run.rows())
    now = {lane: 0 for lane in lanes_of(run)}
    most = dict(now)
    for letter, word in line:
        lane = ways[letter]
        now[lane] += 1 if word == "send" else -1
        most[lane] = max(most[lane], now[lane])
    return most


def sends_in(run):
    """The dictionary from the lanes to the lists of their letters, as they were sent."""
    found = {lane: [] for lane in lanes_of(run)}
    for letter, lane in ways_of(run.rows()).items():
        found[lane].append(letter)
    return found


def ends_in(run):
    """The dictionary from the lanes to the lists of their ends: the takes as they stand, then the lies as sent."""
    ways, taken = ways_of(run.rows()), taken_in(run.rows())
    found = {lane: [] for lane in lanes_of(run)}
    for letter in taken:
        found[ways[letter]].append((letter, "take"))
    for letter, lane in ways.items():
        if letter not in taken:
            found[lane].append((letter, "lie"))
    return found


def arrows_by(run, slots):
    """The list of the arrows of slots, also of such as tell some of the lanes alone."""
    sends, ends = sends_in(run), ends_in(run)
    found = []
    for lane, many in slots.items():
        for end, letter in zip(ends[lane], sends[lane][many:]):
            found.append((end, (letter, "send")))
    return found


def steps_by(run, slots):
    """The steps with the arrows of slots, also of such as tell some of the lanes alone."""
    return with_arrows(steps_ahead(run), arrows_by(run, slots))


def can_keep(run, slots):
    """Whether some line keeps slots, also such as tell some of the lanes alone."""
    goes = reached(steps_by(run, slots))
    return not any([moment in others for moment, others in goes.items()])


def goes_with(run, slots):
    """Whether some line keeps slots."""
    check_run(run)
    check_slots(run, slots)
    return can_keep(run, slots)


def line_with(run, slots):
    """A line that keeps slots, None if there is none."""
    if not goes_with(run, slots):
        return None
    known = known_events(run)
    return [known[k] for k in least_order(bits_among(known, reached(steps_by(run, slots))))]


def is_line_with(run, slots, value):
    """Whether any object is a line that keeps slots."""
    check_run(run)
    check_slots(run, slots)
    return is_line(run, value) and all([many <= slots[lane] for lane, many in lying_in(run, value).items()])


def arrows_with(run, slots):
    """The ascending list of the arrows of slots, tuples of an end and of the send that has to wait for it."""
    check_run(run)
    check_slots(run, slots)
    return sorted(arrows_by(run, slots))


def ring_with(run, slots):
    """A ring by the arrows of slots, of all of them a shortest one; None if there is none."""
    check_run(run)
    check_slots(run, slots)
    steps = steps_by(run, slots)
    return shortest_ring(steps, pairs_of(steps))


def is_ring_with(run, slots, value):
    """Whether any object is a ring by the arrows of slots."""
    check_run(run)
    check_slots(run, slots)
    return is_closed(steps_by(run, slots), value)


def least_of_lane(run, lane):
    """The least number of slots of a lane with which some line keeps them, whatever lies in the others."""
    check_run(run)
    check_lane(run, lane)
    many = 1
    # With as many slots as letters a lane has no arrows, so this comes to an end.
    while not can_keep(run, {lane: many}):
        many += 1
    return many


def lane_leasts(run):
    """The dictionary from the lanes to the least number of slots of each."""
    return {lane: least_of_lane(run, lane) for lane in lanes_of(run)}


def least_slots(run):
    """The list of all least slots, ascending by the lists of their counts."""
    lanes, counts = lanes_of(run), [[]]
    for letters in sends_in(run).values():
        counts = [[*some, many + 1] for some in counts for many in range(len(letters))]
    slots = [dict(zip(lanes, some)) for some in counts]
    return [some for some in slots if are_least(run, some)]


def are_least(run, slots):
    """Whether some line keeps slots, but none if any one lane has one less."""
    if not can_keep(run, slots):
        return False
    return not any([can_keep(run, {**slots, lane: many - 1}) for lane, many in slots.items() if many > 1])


def is_least_slots(run, value):
    """Whether any object is one of the least slots."""
    check_run(run)
    return is_slots(run, value) and are_least(run, value)


def fewest_from(run):
    """The dictionary from the fronts, as bits, to the fewest letters that have to lie at once from there on."""
    ahead = bits_ahead(run)
    signs = [1 if word == "send" else -1 for _, word in known_events(run)]
    found = {}
    for level in reversed(front_levels(ahead)):
        for front in level:
            now = sum([sign for k, sign in enumerate(signs) if (front >> k) & 1])
            later = [found[front | (1 << step)] for step in next_steps(front, ahead)]
            found[front] = max(now, min(later, default=0))
    return found


def fewest_lying(run):
    """The least number, over all lines, of the most letters that lie at once."""
    check_run(run)
    return fewest_from(run)[0]


def fewest_line(run):
    """The least line along which no more letters lie at once than have to."""
    check_run(run)
    known, ahead, fewest = known_events(run), bits_ahead(run), fewest_from(run)
    line, front = [], 0
    while len(line) < len(known):
        steps = [step for step in next_steps(front, ahead) if fewest[front | (1 << step)] <= fewest[0]]
        line.append(known[steps[0]])
        front = front | (1 << steps[0])
    return line


def is_fewest_line(run, value):
    """Whether any object is a line along which no more letters lie at once than have to."""
    check_run(run)
    return is_line(run, value) and max(lying_along(run, value), default=0) == fewest_lying(run)
