"""The states, the treaties between them, who favours whom, and what comes of these between two states."""

from treatyregistry.treaty import BITS, size

MOST_STATES = 6
MOST_TAKEN = 100


# All that a change may change, and nothing else: so an earlier world is what a change is taken back to.
class World:
    def __init__(self, states):
        self.states = states
        self.treaties = []
        self.favoured = [0] * MOST_STATES

    def copied(self):
        other = World(self.states)
        other.treaties = [treaty.copied() for treaty in self.treaties]
        other.favoured = list(self.favoured)
        return other

    # How many treaties were concluded. None is ever undone but by going back to an earlier world,
    # so this is the last turn that there was, too.
    def turns(self):
        return len([treaty for treaty in self.treaties if treaty.concluded()])

    def favours(self, i, j):
        return self.favoured[i] & BITS[j] != 0

    def all_favours(self):
        return sum([size(those) for those in self.favoured])

    # Nobody had the new one's number before: it's no member, has no offer, and no favour is told of it.
    def part(self, i, with_treaties):
        new = self.states
        self.states += 1
        if with_treaties:
            for treaty in self.treaties:
                treaty.take_after(new, i)
        return new

    # What goes ahead on subject s: the treaty and its article, or None.
    def ahead(self, i, j, s):
        found = None
        latest = 0
        for t, treaty in enumerate(self.treaties):
            a = treaty.last_applying(i, j, s)
            if a is not None and treaty.turn > latest:
                found = (t, a)
                latest = treaty.turn
        return found

    def amount(self, t, a):
        return self.treaties[t].articles[a][1]

    def allowed(self, i, j, s):
        found = self.ahead(i, j, s)
        return MOST_TAKEN if found is None else self.amount(found[0], found[1])

    def takes(self, i, j, s):
        if self.favours(i, j):
            return min([self.allowed(i, k, s) for k in range(self.states) if k != i])
        return self.allowed(i, j, s)
