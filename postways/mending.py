"""Rounds in which a run can go, and which letters have to go for a kind of post."""

from postways.arrows import steps_ahead
from postways.errors import InvalidNumber
from postways.kinds import check_kind, is_of
from postways.plain import is_count, is_pair_of, is_part_of
from postways.primes import behind, lots_of
from postways.runs import check_all_taken, check_run, kept


def is_volley(run):
    """Whether no take is ahead of a send."""
    return not round_gaps(run)


def round_gaps(run):
    """The ascending list of the tuples of two letters, the take of the first ahead of the send of the second."""
    check_all_taken(run)
    steps = steps_ahead(run)
    return [(letter, other) for letter in run.letters() for other, word in steps[(letter, "take")] if word == "send"]


def bars_rounds(run):
    """The list of the ascending lists of the letters of the primes that are no volleys."""
    return [lot for lot in lots_of(run) if not is_volley(kept(run, lot))]


def waits_of(run):
    """The list of the tuples of two events, the first ahead of the second, of unlike letters."""
    return [(one, other) for one, others in steps_ahead(run).items() for other in others if one[0] != other[0]]


def cost_of(wait):
    """1 if a tuple of two events tells that the letter of the second has to go in a later round, else 0."""
    return 1 if wait[0][1] == "take" and wait[1][1] == "send" else 0


def early_rounds(run):
    """The dictionary from the letters of a run that has rounds to the earliest round of each, and those of the waits.

    The second dictionary tells for each letter that does not go in the first round
    for what it waits last: a tuple of two events, the second of which is its own.
    """
    early, last = {letter: 0 for letter in run.letters()}, {}
    waits = waits_of(run)
    # No letter goes later than in the round of its number, so as many looks tell all.
    for _ in run.letters():
        for wait in waits:
            number = early[wait[0][0]] + cost_of(wait)
            if number > early[wait[1][0]]:
                early[wait[1][0]] = number
                last[wait[1][0]] = wait
    return early, last


def rounds_of(run):
    """The rounds in which each letter stands as early as in any, None if there are none."""
    if bars_rounds(run):
        return None
    early, _ = early_rounds(run)
    found = [[] for _ in range(max(list(early.values()), default=-1) + 1)]
    for letter, number in early.items():
        found[number].append(letter)
    return found


def fewest_rounds(run):
    """In how few rounds a run can go, None if in none."""
    rounds = rounds_of(run)
    return None if rounds is None else len(rounds)


def are_rounds(run, value):
    """Whether any object is rounds of a run."""
    check_all_taken(run)
    letters = run.letters()
    if not isinstance(value, list) or not all([is_part_of(lot, letters) and lot for lot in value]):
        return False
    if sorted([letter for lot in value for letter in lot]) != letters:
        return False
    parts = [kept(run, lot) for lot in value]
    whole = kept(run, [])
    for part in parts:
        whole = behind(whole, part)
    return whole == run and all([is_volley(part) for part in parts])


def delay_of(run):
    """A delay that costs one round less than the fewest rounds, None if there are no rounds or no letters."""
    rounds = rounds_of(run)
    if not rounds:
        return None
    _, last = early_rounds(run)
    letter = rounds[-1][0]
    delay = []
    while letter in last:
        delay.append(last[letter])
        letter = last[letter][0][0]
    return delay[::-1]


def is_delay(run, number, value):
    """Whether any object is a delay that costs at least so many rounds."""
    check_all_taken(run)
    if not is_count(number):
        raise InvalidNumber(number)
    steps = steps_ahead(run)
    known = list(steps)
    if not isinstance(value, list) or not all([is_pair_of(wait, known) for wait in value]):
        return False
    if not all([wait[1] in steps[wait[0]] for wait in value]):
        return False
    linked = all([value[k][1][0] == value[k + 1][0][0] for k in range(len(value) - 1)])
    return linked and sum([cost_of(wait) for wait in value]) >= number


def parts_of(letters):
    """The list of all ascending lists of some of ascending letters, each behind those of fewer of its own."""
    parts = [[]]
    for letter in letters:
        parts = parts + [[*part, letter] for part in parts]
    return parts


def has_all(part, letters):
    """Whether all letters of a part are among some letters."""
    return all([letter in letters for letter in part])


def cores(run, kind):
    """The ascending list of all cores for a kind."""
    check_run(run)
    check_kind(kind)
    found = []
    for part in parts_of(run.letters()):
        # Those of fewer of its letters came first, so what is not of the kind and has no core in it is one.
        if not any([has_all(core, part) for core in found]) and not is_of(kept(run, part), kind):
            found.append(part)
    return sorted(found)


def any_core(run, kind):
    """A core for a kind, None if there is none."""
    if is_of(run, kind):
        return None
    core = run.letters()
    for letter in run.letters():
        part = [other for other in core if other != letter]
        if not is_of(kept(run, part), kind):
            core = part
    return core


def is_core(run, kind, value):
    """Whether any object is a core for a kind."""
    check_run(run)
    check_kind(kind)
    if not is_part_of(value, run.letters()) or is_of(kept(run, value), kind):
        return False
    return all([is_of(kept(run, [other for other in value if other != letter]), kind) for letter in value])


def without(run, letters):
    """What is kept of a run without some letters."""
    return kept(run, [letter for letter in run.letters() if letter not in letters])


def left_out(run, kind):
    """The ascending list of the ascending lists of letters that have to go for a kind, none of them in vain."""
    known = cores(run, kind)
    found = []
    for part in parts_of(run.letters()):
        if not any([has_all(less, part) for less in found]):
            if all([any([letter in part for letter in core]) for core in known]):
                found.append(part)
    return sorted(found)


def is_left_out(run, kind, value):
    """Whether any object is a list of letters that have to go for a kind, none of them in vain."""
    check_run(run)
    check_kind(kind)
    if not is_part_of(value, run.letters()) or not is_of(without(run, value), kind):
        return False
    return not any([is_of(without(run, [other for other in value if other != letter]), kind) for letter in value])


def fewest_left_out(run, kind):
    """How many letters have to go for a kind at least."""
    return min([len(letters) for letters in left_out(run, kind)])


def most_kept(run, kind):
    """The ascending list of the longest ascending lists of letters of which what is kept is of a kind."""
    outs = left_out(run, kind)
    fewest = min([len(letters) for letters in outs])
    return sorted([without(run, letters).letters() for letters in outs if len(letters) == fewest])


def blamed(run, kind):
    """The dictionary from the letters to the number of cores in which each stands."""
    found = cores(run, kind)
    return {letter: sum([1 for core in found if letter in core]) for letter in run.letters()}
