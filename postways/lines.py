"""Lines: the orders in which the events of a run can have come."""

from postways.ahead import are_beside, bits_ahead, front_levels, known_events, next_steps
from postways.errors import InvalidLine, InvalidNumber, InvalidPlace, Refused
from postways.plain import is_count
from postways.runs import check_run


def check_line(run, value):
    """Raises InvalidLine unless any object is a line of a run."""
    if not is_line(run, value):
        raise InvalidLine(value)


def is_line(run, value):
    """Whether any object is a list of all events, each once, none later than one of which it is ahead."""
    check_run(run)
    known = known_events(run)
    if not isinstance(value, list) or len(value) != len(known):
        return False
    ahead = bits_ahead(run)
    front = 0
    for event in value:
        if event not in known:
            return False
        step = known.index(event)
        # An event that came already is no step any more, so none can come twice.
        if step not in next_steps(front, ahead):
            return False
        front = front | (1 << step)
    return True


def ways_on(ahead):
    """The dictionary from the fronts, as bits, to how many orders there are of the events outside of each."""
    ways = {}
    for level in reversed(front_levels(ahead)):
        for front in level:
            steps = next_steps(front, ahead)
            ways[front] = sum([ways[front | (1 << step)] for step in steps]) if steps else 1
    return ways


def many_lines(run):
    """How many lines there are."""
    check_run(run)
    return ways_on(bits_ahead(run))[0]


def first_line(run):
    """The least line."""
    check_run(run)
    known = known_events(run)
    return [known[step] for step in least_order(bits_ahead(run))]


def least_order(ahead):
    """The list of all positions, in which always the least one that may come stands next."""
    order, front = [], 0
    while len(order) < len(ahead):
        step = next_steps(front, ahead)[0]
        order.append(step)
        front = front | (1 << step)
    return order


def line_at(run, number):
    """The line with a number."""
    check_run(run)
    ahead = bits_ahead(run)
    ways = ways_on(ahead)
    if not is_count(number) or number >= ways[0]:
        raise InvalidNumber(number)
    known = known_events(run)
    line, front, left = [], 0, number
    while len(line) < len(known):
        for step in next_steps(front, ahead):
            many = ways[front | (1 << step)]
            if left < many:
                line.append(known[step])
                front = front | (1 << step)
                break
            left -= many
    return line


def number_of(run, line):
    """The number of a line: how many lines are less than it."""
    check_run(run)
    check_line(run, line)
    known = known_events(run)
    ahead = bits_ahead(run)
    ways = ways_on(ahead)
    number, front = 0, 0
    for event in line:
        place = known.index(event)
        number += sum([ways[front | (1 << step)] for step in next_steps(front, ahead) if step < place])
        front = front | (1 << place)
    return number


def lying_along(run, line):
    """The list of how many letters are sent and not yet taken, behind each event of a line."""
    check_run(run)
    check_line(run, line)
    many, found = 0, []
    for _, word in line:
        many += 1 if word == "send" else -1
        found.append(many)
    return found


def apart(run, one, other):
    """How many pairs of events stand one way in a line and the other way in another one."""
    check_run(run)
    check_line(run, one)
    check_line(run, other)
    places = [other.index(event) for event in one]
    return sum([1 for k, place in enumerate(places) for later in places[k + 1:] if later < place])


def swapped(run, line, place):
    """The line in which the event at a place and the next one change places."""
    check_run(run)
    check_line(run, line)
    if not is_count(place) or place + 1 >= len(line):
        raise InvalidPlace(place)
    if not are_beside(run, line[place], line[place + 1]):
        raise Refused(place)
    return [*line[:place], line[place + 1], line[place], *line[place + 2:]]
