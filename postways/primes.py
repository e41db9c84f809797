"""Primes: the least parts of which a run is put together, one behind the other."""

from postways.arrows import bits_among, reached, steps_for
from postways.errors import Refused
from postways.kinds import least_kind
from postways.lines import least_order, ways_on
from postways.runs import Run, busy, check_all_taken, check_letter, check_run, kept


def behind(one, other):
    """The run in which each party's row of the other stands behind that of the one."""
    check_run(one)
    check_run(other)
    letters = one.letters()
    if any([letter in letters for letter in other.letters()]):
        raise Refused(other)
    rows = one.rows()
    for party, row in other.rows().items():
        rows[party] = rows.get(party, []) + row
    return Run(rows)


def is_prime(run):
    """Whether a run has letters and does not fall apart."""
    return len(lots_of(run)) == 1


def bound_moments(run):
    """The dictionary from each event to the list of those to which it goes, if an arrow leads from each take back.

    What goes to one another cannot be cut apart.
    """
    return reached(steps_for(run, "hand"))


def lots_of(run):
    """The list of the ascending lists of the letters of the primes, in the least order in which they may stand."""
    check_all_taken(run)
    lots = ascending_lots(run)
    return [lots[k] for k in least_order(lots_ahead(run, lots))]


def ascending_lots(run):
    """The lists of the letters of the primes, by their least letters."""
    goes = bound_moments(run)
    found = []
    for letter in run.letters():
        send = (letter, "send")
        lot = [other for other, word in goes[send] if word == "send" and send in goes[(other, word)]]
        if lot[0] == letter:
            found.append(lot)
    return found


def lots_ahead(run, lots):
    """For each lot, by position, the lots that stand ahead of it in each order, as bits."""
    return bits_among([(lot[0], "send") for lot in lots], bound_moments(run))


def primes_of(run):
    """The list of the primes, busy, which put one behind the other give the run."""
    return [busy(kept(run, lot)) for lot in lots_of(run)]


def are_primes(run, value):
    """Whether any object is a list of the primes, busy, in an order in which they give the run."""
    primes = primes_of(run)
    if not isinstance(value, list) or len(value) != len(primes):
        return False
    if not all([prime in value for prime in primes]):
        return False
    whole = Run({})
    for prime in value:
        whole = behind(whole, prime)
    return whole == busy(run)


def web_of(run):
    """The ascending list of the tuples of two positions of primes, the first of which always stands ahead."""
    ahead = lots_ahead(run, lots_of(run))
    return [(one, other) for one in range(len(ahead)) for other, bits in enumerate(ahead) if (bits >> one) & 1]


def many_orders(run):
    """In how many orders the primes give the run."""
    return ways_on(lots_ahead(run, lots_of(run)))[0]


def are_together(run, one, other):
    """Whether two letters are in one prime."""
    check_all_taken(run)
    check_letter(run, one)
    check_letter(run, other)
    return any([one in lot and other in lot for lot in ascending_lots(run)])


def prime_kinds(run):
    """The list of the least kinds of the primes."""
    return [least_kind(prime) for prime in primes_of(run)]


def longest_prime(run):
    """How many letters the prime with most letters has, 0 if there is none."""
    return max([len(lot) for lot in lots_of(run)], default=0)
