"""Plain counts over runs: which lines serve a kind, arrows and rings, by the words of the document and by all cases."""

import itertools

from postways.runs import Run
from tests.samples import lines_by_steps, plain_ahead, plain_events

KINDS = ("lanes", "causal", "box", "outbox", "belt", "hand")


class Counted:
    """A run with all its lines, what is ahead in all of them, and the lines that serve each kind."""

    def __init__(self, rows):
        self.run = Run(rows)
        self.events = plain_events(rows)
        self.letters = sorted(letter for letter, word in self.events if word == "send")
        self.taken = [letter for letter, word in self.events if word == "take"]
        self.ways = {deed[1]: (party, deed[2]) for party, row in rows.items() for deed in row if deed[0] == "send"}
        self.lines = lines_by_steps(rows)
        self.ahead = plain_ahead(self.lines)
        self.serving = {kind: [line for line in self.lines if not self.out(kind, line)] for kind in KINDS}

    def end(self, letter):
        return (letter, "take" if letter in self.taken else "lie")

    def wants(self, kind, one, other):
        """Whether a kind wants two letters in order, the first of which is sent earlier."""
        (sender, receiver), (another, to) = self.ways[one], self.ways[other]
        return {
            "lanes": sender == another and receiver == to,
            "causal": receiver == to and ((one, "send"), (other, "send")) in self.ahead,
            "box": receiver == to,
            "outbox": sender == another,
            "belt": True,
        }[kind]

    def out(self, kind, line):
        """The ascending list of the tuples that are out of order in a line."""
        place = {event: k for k, event in enumerate(line)}
        if kind == "hand":
            return [(letter,) for letter in self.letters
                    if place.get((letter, "take")) != place[(letter, "send")] + 1]
        found = []
        for one, other in itertools.permutations(self.letters, 2):
            sent_earlier = place[(one, "send")] < place[(other, "send")]
            if sent_earlier and other in self.taken and self.wants(kind, one, other):
                if one not in self.taken or place[(other, "take")] < place[(one, "take")]:
                    found.append((one, other))
        return sorted(found)

    def moments(self):
        return sorted(self.events + [(letter, "lie") for letter in self.letters if letter not in self.taken])

    def all_ahead(self):
        """The tuples of two moments of which the first is ahead of the second."""
        lies = [moment for moment in self.moments() if moment[1] == "lie"]
        return self.ahead | {(event, lie) for event in self.events for lie in lies}

    def arrows(self, kind):
        """The ascending list of the arrows of a kind."""
        if kind == "hand":
            return sorted((self.end(letter), (letter, "send")) for letter in self.letters)
        if kind == "belt":
            return sorted(self.belt_arrows())
        ahead, found = self.all_ahead(), []
        for one, other in itertools.permutations(self.letters, 2):
            sends, ends = ((one, "send"), (other, "send")), (self.end(one), self.end(other))
            if kind == "box":
                if self.ways[one][1] == self.ways[other][1] and one in self.taken and ends in ahead:
                    found.append(sends)
            elif other in self.taken and sends in ahead and self.wants(kind, one, other):
                found.append(ends)
        return sorted(found)

    def belt_arrows(self):
        """The arrows of "belt", each found by those that were found ahead of it."""
        found = set()
        while True:
            goes, more = closed(self.all_ahead() | found), set()
            for one, other in itertools.permutations(self.letters, 2):
                sends, ends = ((one, "send"), (other, "send")), (self.end(one), self.end(other))
                if one in self.taken and ends in goes:
                    more.add(sends)
                if other in self.taken and sends in goes:
                    more.add(ends)
            if more == found:
                return found
            found = more

    def steps(self, kind):
        return self.all_ahead() | set(self.arrows(kind))

    def is_ring(self, kind, ring, steps):
        """Whether a list of unlike moments is a ring."""
        if len(ring) < 2 or not all((one, other) in steps for one, other in zip(ring, ring[1:] + ring[:1])):
            return False
        return kind != "hand" or len({letter for letter, _ in ring}) > 1 or "lie" in [word for _, word in ring]

    def rings(self, kind):
        """All rings, the shortest first."""
        steps, moments = self.steps(kind), self.moments()
        for many in range(2, len(moments) + 1):
            for ring in itertools.permutations(moments, many):
                if self.is_ring(kind, list(ring), steps):
                    yield list(ring)

    def allowed(self, pair, told):
        """Whether a tuple of two moments may stand behind these in reasons."""
        one, other = pair
        if pair in self.all_ahead():
            return True
        if any((one, mid) in told and (mid, other) in told for mid in self.moments()):
            return True
        if one[0] == other[0]:
            return False
        both, sends = (self.end(one[0]), self.end(other[0])), ((one[0], "send"), (other[0], "send"))
        if pair == sends and one[0] in self.taken and both in told:
            return True
        return pair == both and other[0] in self.taken and sends in told

    def are_reasons(self, pairs):
        """Whether a list of tuples of two moments is reasons."""
        if not pairs or pairs[-1][0] != pairs[-1][1]:
            return False
        return all(self.allowed(pair, pairs[:k]) for k, pair in enumerate(pairs))


def closed(pairs):
    """The tuples with those that follow from them one behind the other."""
    found = set(pairs)
    while True:
        more = {(one, last) for one, other in found for same, last in found if other == same} - found
        if not more:
            return found
        found |= more
