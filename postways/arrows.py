"""Moments of a run, the arrows of the kinds of posts between them, and where all these lead.

Steps are a dictionary from each moment to the list of the moments of which it is
ahead or to which an arrow leads from it.
"""

from postways.ahead import bits_over, known_events, told_by
from postways.runs import lying, straight_ahead, taken_in, ways_of


def known_moments(run):
    """The ascending list of the moments of what is known to be a run."""
    return sorted(known_events(run) + [(letter, "lie") for letter in lying(run)])


def ends_of(run):
    """The dictionary from the letters, those of one sender as they were sent, to their ends."""
    rows = run.rows()
    taken = taken_in(rows)
    return {letter: (letter, "take" if letter in taken else "lie") for letter in ways_of(rows)}


def steps_ahead(run):
    """The steps without any arrows: the dictionary from the moments to the lists of those of which they are ahead."""
    straight = straight_ahead(run.rows())
    for letter in lying(run):
        straight[(letter, "lie")] = known_events(run)
    known = sorted(straight)
    ahead = bits_over(straight)
    found = {}
    for k, moment in enumerate(known):
        found[moment] = [other for other, bits in zip(known, ahead) if (bits >> k) & 1]
    return found


def with_arrows(steps, arrows):
    """Steps and some arrows more."""
    found = {moment: list(others) for moment, others in steps.items()}
    for one, other in arrows:
        if other not in found[one]:
            found[one].append(other)
    return found


def reached(steps):
    """The dictionary from each moment to the ascending list of those to which it goes by steps."""
    known = sorted(steps)
    bit = {moment: 1 << k for k, moment in enumerate(known)}
    found = [sum([bit[other] for other in steps[moment]]) for moment in known]
    for k in range(len(known)):
        for place in range(len(known)):
            if (found[place] >> k) & 1:
                found[place] = found[place] | found[k]
    return {moment: told_by(bits, known) for moment, bits in zip(known, found)}


def are_tied(kind, way, other):
    """Whether letters that went two ways, tuples of a sender and a receiver, are such as a kind wants in order."""
    if kind == "lanes":
        return way == other
    if kind == "outbox":
        return way[0] == other[0]
    if kind == "belt":
        return True
    return way[1] == other[1]


def arrows_for(run, kind):
    """The list of the arrows of a kind, tuples of two moments."""
    if kind == "belt":
        return belt_arrows(run)
    ends = ends_of(run)
    if kind == "hand":
        return [(end, (letter, "send")) for letter, end in ends.items()]
    ways, steps = ways_of(run.rows()), steps_ahead(run)
    found = []
    for one in ends:
        for other in ends:
            if one != other and are_tied(kind, ways[one], ways[other]):
                sends = ((one, "send"), (other, "send"))
                if kind == "box":
                    # The end of a letter that lies is ahead of nothing, so only letters that are taken come first.
                    if ends[other] in steps[ends[one]]:
                        found.append(sends)
                elif ends[other][1] == "take" and sends[1] in steps[sends[0]]:
                    found.append((ends[one], ends[other]))
    return found


def belt_causes(run):
    """The dictionary from each arrow that there may be for "belt" to the tuple on which it rests.

    The arrow is there if in this tuple, of two moments too, the first one goes to the second one.
    """
    ends = ends_of(run)
    found = {}
    for one in ends:
        for other in ends:
            if one != other:
                sends, both = ((one, "send"), (other, "send")), (ends[one], ends[other])
                if ends[one][1] == "take":
                    found[sends] = both
                if ends[other][1] == "take":
                    found[both] = sends
    return found


def resting_on(steps, causes):
    """The list of the arrows whose tuples are told by steps."""
    goes = reached(steps)
    return [arrow for arrow, cause in causes.items() if cause[1] in goes[cause[0]]]


def belt_steps(steps, causes):
    """Steps with all the arrows for "belt" that come to rest on them, one upon the other."""
    found, many = steps, -1
    arrows = resting_on(steps, causes)
    # There are never fewer arrows than before, so as many are the same ones.
    while len(arrows) != many:
        many = len(arrows)
        found = with_arrows(steps, arrows)
        arrows = resting_on(found, causes)
    return found


def belt_arrows(run):
    """The list of the arrows for "belt"."""
    causes = belt_causes(run)
    return resting_on(belt_steps(steps_ahead(run), causes), causes)


def steps_for(run, kind):
    """The steps of a kind."""
    return with_arrows(steps_ahead(run), arrows_for(run, kind))


def makes_ring(kind, one, other):
    """Whether two unlike moments that go to one another are enough for a ring."""
    return kind != "hand" or one[0] != other[0] or "lie" in (one[1], other[1])


def has_ring(kind, goes):
    """Whether there is a ring for a kind, where all moments go so."""
    for one, others in goes.items():
        for other in others:
            if other != one and one in goes[other] and makes_ring(kind, one, other):
                return True
    return False


def bits_among(members, goes):
    """For each of some moments, by position, the other ones among them that go to it, as bits."""
    found = []
    for member in members:
        ahead = [1 << k for k, one in enumerate(members) if one != member and member in goes[one]]
        found.append(sum(ahead))
    return found
