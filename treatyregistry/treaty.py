"""One treaty: its articles, the offers to join it, and what its members reserve and object to."""

# A set, of states or of a treaty's articles, is one number: these are the sets of one, by what is in them.
BITS = (1, 2, 4, 8, 16, 32)


def size(together):
    return len([bit for bit in BITS if together & bit])


class Treaty:
    # Each list by states has a place for every state there may ever be, so none grows when a state is added.
    def __init__(self, need):
        self.need = need
        self.articles = []
        self.offers = [None] * len(BITS)
        self.turn = 0
        self.members = 0
        self.reserved = [0] * len(BITS)
        self.objected = [0] * len(BITS)

    def copied(self):
        other = Treaty(self.need)
        other.articles = list(self.articles)
        other.offers = list(self.offers)
        other.turn = self.turn
        other.members = self.members
        other.reserved = list(self.reserved)
        other.objected = list(self.objected)
        return other

    def concluded(self):
        return self.turn > 0

    def offered(self):
        together = 0
        for i, offer in enumerate(self.offers):
            if offer is not None:
                together |= BITS[i]
        return together

    # By a set that state i is in; the states of free are taken to need and name nobody.
    def holds(self, i, together, free):
        if free & BITS[i]:
            return True
        need = self.offers[i][0]
        named = self.offers[i][1]
        return size(together) - 1 >= need and named & together == named

    def holding(self, together, free):
        held = 0
        for i, bit in enumerate(BITS):
            if together & bit and self.holds(i, together, free):
                held |= bit
        return held

    # An offer that fails by a set fails by each lesser one too: so whoever fails can be left out at once,
    # and what remains is the greatest set whatever order that is done in.
    def joiners(self, free):
        together = self.offered()
        held = self.holding(together, free)
        while held != together:
            together = held
            held = self.holding(together, free)
        return together

    def enough_join(self, free):
        return size(self.joiners(free)) >= self.need

    # Asked only where all who offered are enough. Lesser numbers are tried first, so of like sets
    # the least number stays.
    def first(self):
        offered = self.offered()
        fewest = offered
        for tried in range(offered):
            if tried & offered == tried and size(tried) < size(fewest) and self.enough_join(tried):
                fewest = tried
        return fewest

    def is_member(self, i):
        return self.members & BITS[i] != 0

    def has_reserved(self, i, a):
        return self.reserved[i] & BITS[a] != 0

    def objects(self, j, i):
        return self.objected[j] & BITS[i] != 0

    def objections(self):
        return sum([size(those) for those in self.objected])

    def drop_objections_to(self, i):
        self.objected = [those & ~BITS[i] for those in self.objected]

    def leave(self, i):
        self.members &= ~BITS[i]
        self.reserved[i] = 0
        self.objected[i] = 0
        self.drop_objections_to(i)

    def unreserve(self, i, a):
        self.reserved[i] &= ~BITS[a]
        if self.reserved[i] == 0:
            self.drop_objections_to(i)

    # State i doesn't object to itself, so it and the new one don't object to one another.
    def take_after(self, new, i):
        if self.is_member(i):
            self.members |= BITS[new]
        self.reserved[new] = self.reserved[i]
        self.objected[new] = self.objected[i]
        for j in range(len(BITS)):
            if self.objects(j, i):
                self.objected[j] |= BITS[new]

    # Only a concluded treaty has members.
    def between(self, i, j):
        both = BITS[i] | BITS[j]
        return self.members & both == both and not self.objects(i, j) and not self.objects(j, i)

    def applies(self, i, j, a):
        return self.between(i, j) and not self.has_reserved(i, a) and not self.has_reserved(j, a)

    # The last article on subject s that applies between both, or None.
    def last_applying(self, i, j, s):
        found = None
        for a, article in enumerate(self.articles):
            if article[0] == s and self.applies(i, j, a):
                found = a
        return found
