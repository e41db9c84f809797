"""Plans: pieces of runs, and the ways on which they may stand one behind the other."""

from postways.arrows import reached
from postways.errors import InvalidNames, InvalidNumber, InvalidPieces, InvalidPlan, InvalidWay, InvalidWays, Refused
from postways.kinds import check_kind, is_of
from postways.plain import ALPHABET, is_count, is_part_of, is_word
from postways.posts import least_carrying
from postways.products import told_rows
from postways.runs import Run, busy, lying, ways_of, with_names


class Plan:
    """Pieces, which may stand behind which, and with which a way may begin and end; it never changes."""

    def __init__(self, pieces, ways, firsts, lasts):
        if not are_pieces(pieces):
            raise InvalidPieces(pieces)
        names = sorted(pieces)
        if not are_ways(ways, names):
            raise InvalidWays(ways)
        for ends in (firsts, lasts):
            if not is_part_of(ends, names):
                raise InvalidNames(ends)
        self._pieces = {name: pieces[name] for name in names}
        self._ways = {name: list(ways[name]) for name in names}
        self._firsts = list(firsts)
        self._lasts = list(lasts)

    def __eq__(self, other):
        return (
            isinstance(other, Plan) and self._pieces == other._pieces and self._ways == other._ways
            and self._firsts == other._firsts and self._lasts == other._lasts
        )

    def pieces(self):
        """The dictionary from the names, ascending, to the runs of the pieces."""
        return dict(self._pieces)

    def ways(self):
        """The dictionary from the names, ascending, to the ascending lists of those that may stand next."""
        return {name: list(others) for name, others in self._ways.items()}

    def firsts(self):
        """The ascending list of the names with which ways begin."""
        return list(self._firsts)

    def lasts(self):
        """The ascending list of the names with which ways end."""
        return list(self._lasts)


def are_pieces(value):
    """Whether any object is a dictionary from words to runs in which nothing lies."""
    if not isinstance(value, dict):
        return False
    return all([is_word(name) and isinstance(run, Run) and not lying(run) for name, run in value.items()])


def are_ways(value, names):
    """Whether any object is a dictionary from just these names to ascending lists of some of them."""
    if not isinstance(value, dict) or len(value) != len(names):
        return False
    return all([name in value and is_part_of(value[name], names) for name in names])


def check_plan(value):
    """Raises InvalidPlan unless any object is a plan."""
    if not isinstance(value, Plan):
        raise InvalidPlan(value)


def check_number(value):
    """Raises InvalidNumber unless any object is a count."""
    if not is_count(value):
        raise InvalidNumber(value)


def is_way(plan, value):
    """Whether any object is a way of a plan."""
    check_plan(plan)
    ways = plan.ways()
    names = list(ways)
    if not isinstance(value, list) or not value or not all([name in names for name in value]):
        return False
    if value[0] not in plan.firsts() or value[-1] not in plan.lasts():
        return False
    return all([value[k + 1] in ways[value[k]] for k in range(len(value) - 1)])


def run_of_way(plan, way):
    """The named run of the pieces of a way, one behind the other, each time with letters of their own."""
    check_plan(plan)
    if not is_way(plan, way):
        raise InvalidWay(way)
    rows = rows_of_way(plan.pieces(), way)
    letters = list(ways_of(rows))
    if len(letters) > len(ALPHABET):
        raise Refused(way)
    return Run(with_names(rows, dict(zip(letters, ALPHABET))))


def rows_of_way(pieces, way):
    """The rows of the pieces of a way, parties ascending; each letter is told with the place of its piece."""
    found = {}
    for place, name in enumerate(way):
        names = {letter: (place, letter) for letter in pieces[name].letters()}
        for party, row in with_names(pieces[name].rows(), names).items():
            found.setdefault(party, []).extend(row)
    return {party: found[party] for party in sorted(found)}


def on_ways(plan):
    """The ascending list of the names that stand in some way."""
    check_plan(plan)
    goes = reached(plan.ways())
    begun = [name for first in plan.firsts() for name in [first, *goes[first]]]
    lasts = plan.lasts()
    return [name for name in goes if name in begun and any([last in [name, *goes[name]] for last in lasts])]


def steps_on_ways(plan):
    """The dictionary from the names that stand in some way to the lists of those that may stand next on one."""
    names, ways = on_ways(plan), plan.ways()
    return {name: [other for other in ways[name] if other in names] for name in names}


def ways_within(plan, number):
    """The list of all ways of at most so many names, shorter ones first, those of one length ascending."""
    check_plan(plan)
    check_number(number)
    steps, lasts = steps_on_ways(plan), plan.lasts()
    found, begun = [], [[name] for name in plan.firsts() if name in steps]
    while begun and len(begun[0]) <= number:
        found.extend([way for way in begun if way[-1] in lasts])
        # Those that go on stay in their order, as all of one length do.
        begun = [[*way, name] for way in begun for name in steps[way[-1]]]
    return found


def many_ways(plan, number):
    """How many ways there are of just so many names."""
    check_plan(plan)
    check_number(number)
    if number == 0:
        return 0
    steps, lasts = steps_on_ways(plan), plan.lasts()
    many, length = {name: 1 for name in plan.firsts() if name in steps}, 1
    while many and length < number:
        further = {}
        for name, ways in many.items():
            for other in steps[name]:
                further[other] = further.get(other, 0) + ways
        many, length = further, length + 1
    return sum([ways for name, ways in many.items() if name in lasts])


def barred_names(plan, kind):
    """The list of the names on ways whose pieces are not of a kind."""
    pieces = plan.pieces()
    return [name for name in on_ways(plan) if not is_of(pieces[name], kind)]


def is_plan_of(plan, kind):
    """Whether the run of every way is of a kind."""
    check_plan(plan)
    check_kind(kind)
    return not barred_names(plan, kind)


def bad_way(plan, kind):
    """The first way whose run is not of a kind, None if there is none."""
    check_plan(plan)
    check_kind(kind)
    barred = barred_names(plan, kind)
    if not barred:
        return None
    steps, lasts = steps_on_ways(plan), plan.lasts()
    # The least beginnings of one length, by their last names and by whether a barred name stands in them, ascending.
    begun = {(name, name in barred): [name] for name in plan.firsts() if name in steps}
    while True:
        ended = [way for (name, bad), way in begun.items() if bad and name in lasts]
        if ended:
            return ended[0]
        begun = least_further(begun, steps, barred)


def least_further(begun, steps, barred):
    """The least beginnings of ways, as they are told above, with one name more."""
    found = {}
    for (name, bad), way in begun.items():
        for other in steps[name]:
            # What goes on from lesser beginnings, by lesser names, is less: the first one found is the least.
            found.setdefault((other, bad or other in barred), [*way, other])
    return found


def least_kind_of(plan):
    """The narrowest kind of which the runs of all ways are, None if there is none."""
    names, pieces = on_ways(plan), plan.pieces()
    return least_carrying([pieces[name] for name in names])


def runs_within(plan, number):
    """The list of the unlike runs, named and busy, of the ways of at most so many names, as they first come."""
    found = {}
    for way in ways_within(plan, number):
        run = busy(run_of_way(plan, way))
        told = tuple([(party, tuple(row)) for party, row in run.rows().items()])
        found.setdefault(told, run)
    return list(found.values())


def alike_pieces(plan):
    """The ascending list of the tuples of two names, the lesser first, whose pieces are alike."""
    check_plan(plan)
    told = {name: told_rows(run) for name, run in plan.pieces().items()}
    return [(one, other) for one in told for other in told if one < other and told[one] == told[other]]


def endless(plan):
    """Whether there are ways as long as one likes."""
    goes = reached(steps_on_ways(plan))
    return any([name in others for name, others in goes.items()])
