"""Products up to names: what runs are put together of, whatever their letters are called.

Here the letters of a run are told by tuples of their sender and of how many it
sent earlier. So two runs have the very same rows if they differ in what their
letters are called or in idle parties alone.
"""

from postways.errors import InvalidNumber, Refused
from postways.plain import ALPHABET, is_count
from postways.runs import Run, check_all_taken, ways_of, with_names


def told_rows(run):
    """The rows of a run, but those of idle parties, with the letters told so."""
    many, names = {}, {}
    for letter, (sender, _) in ways_of(run.rows()).items():
        names[letter] = (sender, many.get(sender, 0))
        many[sender] = names[letter][1] + 1
    return busy_rows(with_names(run.rows(), names))


def busy_rows(rows):
    """Rows without the empty ones."""
    return {party: row for party, row in rows.items() if row}


def sent_in(rows):
    """The ascending list of the letters that are sent."""
    return sorted(list(ways_of(rows)))


def run_of(rows, first):
    """The named and busy run of rows; Refused with the first argument of the call if it has more than 26 letters."""
    letters = sent_in(rows)
    if len(letters) > len(ALPHABET):
        raise Refused(first)
    return Run(with_names(busy_rows(rows), dict(zip(letters, ALPHABET))))


def is_start(rows, others):
    """Whether each row is a beginning of the other row of its party."""
    return all([others.get(party, [])[:len(row)] == row for party, row in rows.items()])


def rest_of(rows, start):
    """What stands in rows behind a start of them."""
    return busy_rows({party: row[len(start.get(party, [])):] for party, row in rows.items()})


def shared_rows(rows, others):
    """The rows of the common start of which all common starts are starts."""
    found = {}
    for party, row in rows.items():
        found[party] = shared_beginning(row, others.get(party, []))
    cut = cut_open(found)
    while cut != found:
        found = cut
        cut = cut_open(found)
    return found


def shared_beginning(row, other):
    """The longest beginning of two rows."""
    many = 0
    while many < min(len(row), len(other)) and row[many] == other[many]:
        many += 1
    return row[:many]


def cut_open(rows):
    """Rows, each cut off ahead of the first letter of which one deed stands in no row."""
    deeds = [deed for row in rows.values() for deed in row]
    letters = [deed[1] for deed in deeds]
    found = {}
    for party, row in rows.items():
        alone = [k for k, deed in enumerate(row) if letters.count(deed[1]) < 2]
        found[party] = row[:alone[0]] if alone else row
    return found


def joined_rows(rows, others):
    """Rows with other ones behind them, the letters of which are counted on."""
    many = {}
    for sender, _ in sent_in(rows):
        many[sender] = many.get(sender, 0) + 1
    names = {letter: (letter[0], letter[1] + many.get(letter[0], 0)) for letter in sent_in(others)}
    found = {party: list(row) for party, row in rows.items()}
    for party, row in with_names(others, names).items():
        found[party] = found.get(party, []) + row
    return found


def power_rows(rows, many):
    """So many rows, one behind the other."""
    found = {}
    for _ in range(many):
        found = joined_rows(found, rows)
    return found


def is_start_of(one, run):
    """Whether a run is, up to names, another one with some run behind it."""
    check_all_taken(one)
    check_all_taken(run)
    return is_start(told_rows(one), told_rows(run))


def rest_behind(one, run):
    """The run that stands behind a start of a run."""
    if not is_start_of(one, run):
        raise Refused(one)
    return run_of(rest_of(told_rows(run), told_rows(one)), one)


def common_start(one, other):
    """The start of two runs of which all their common starts are starts."""
    check_all_taken(one)
    check_all_taken(other)
    return run_of(shared_rows(told_rows(one), told_rows(other)), one)


def common_whole(one, other):
    """The run of which two runs are starts and which is a start of each such run, None if there is none."""
    check_all_taken(one)
    check_all_taken(other)
    rows, others = told_rows(one), told_rows(other)
    start = shared_rows(rows, others)
    further = rest_of(others, start)
    if any([party in further for party in rest_of(rows, start)]):
        return None
    # A party that goes on in the other run does nothing but the start in the one.
    whole = dict(rows)
    for party in further:
        whole[party] = others[party]
    return run_of(whole, one)


def commute(one, other):
    """Whether either of two runs behind the other makes the same run."""
    check_all_taken(one)
    check_all_taken(other)
    rows, others = told_rows(one), told_rows(other)
    return joined_rows(rows, others) == joined_rows(others, rows)


def power(run, many):
    """So many of a run, one behind the other."""
    check_all_taken(run)
    if not is_count(many):
        raise InvalidNumber(many)
    letters = run.letters()
    if not letters:
        return Run({})
    # So many rows are put together only if they can be named.
    if len(letters) * many > len(ALPHABET):
        raise Refused(run)
    return run_of(power_rows(told_rows(run), many), run)


def root_of(run):
    """The tuple of the run of fewest letters of which a run is a power, and of the number that makes this power."""
    check_all_taken(run)
    letters = run.letters()
    if not letters:
        raise Refused(run)
    rows = told_rows(run)
    many = max([number for number in range(1, len(letters) + 1) if is_power(rows, number)])
    return (run_of(part_of(rows, many), run), many)


def part_of(rows, many):
    """What each party does in the first one of so many parts of the same length."""
    return {party: row[:len(row) // many] for party, row in rows.items()}


def is_power(rows, many):
    """Whether rows are so many of a run, one behind the other."""
    part = part_of(rows, many)
    return cut_open(part) == part and power_rows(part, many) == rows
