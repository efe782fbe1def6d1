"""The calls on a registry of treaties, and answers(calls), which goes through a list of them."""

from treatyregistry.treaty import BITS, Treaty, size

NOT_THERE = -2
NOT_SO = -6
CONCLUDED = -16
ALREADY_SO = -17
WRONG = -22
FULL = -28
NOT_ENOUGH = -33

MOST_TREATIES = 4
MOST_ARTICLES = 4
SUBJECTS = 4
MOST_TAKEN = 100
MOST_BACK = 20


# All that a change may change, and nothing else: so an earlier world is what a change is taken back to.
class World:
    def __init__(self, states):
        self.states = states
        self.treaties = []

    def copied(self):
        other = World(self.states)
        other.treaties = [treaty.copied() for treaty in self.treaties]
        return other


# The calls. That each treaty, state and article they tell of is there has been looked at before (lacks).


def rt_treaty(world, need):
    if need < 2 or need > world.states:
        return [WRONG]
    if len(world.treaties) >= MOST_TREATIES:
        return [FULL]
    world.treaties.append(Treaty(need))
    return [len(world.treaties) - 1]


def rt_article(world, t, s, x):
    treaty = world.treaties[t]
    if s >= SUBJECTS or x > MOST_TAKEN:
        return [WRONG]
    if treaty.concluded():
        return [CONCLUDED]
    if len(treaty.articles) >= MOST_ARTICLES:
        return [FULL]
    treaty.articles.append((s, x))
    return [len(treaty.articles) - 1]


def rt_offer(world, t, i, need, named):
    treaty = world.treaties[t]
    if need > world.states or named >> world.states or named & BITS[i]:
        return [WRONG]
    if treaty.concluded():
        return [CONCLUDED]
    had = 0 if treaty.offers[i] is None else 1
    treaty.offers[i] = (need, named)
    return [had]


def rt_unoffer(world, t, i):
    treaty = world.treaties[t]
    if treaty.concluded():
        return [CONCLUDED]
    if treaty.offers[i] is None:
        return [NOT_SO]
    treaty.offers[i] = None
    return [size(treaty.offered())]


def rt_joiners(world, t):
    treaty = world.treaties[t]
    if treaty.concluded():
        return [CONCLUDED]
    together = treaty.joiners(0)
    return [size(together), together]


def rt_waits(world, t):
    treaty = world.treaties[t]
    if treaty.concluded():
        return [CONCLUDED]
    waiting = treaty.offered() & ~treaty.joiners(0)
    return [size(waiting), waiting]


def rt_first(world, t):
    treaty = world.treaties[t]
    if treaty.concluded():
        return [CONCLUDED]
    if not treaty.enough_join(treaty.offered()):
        return [NOT_ENOUGH]
    fewest = treaty.first()
    return [size(fewest), fewest]


def rt_conclude(world, t):
    treaty = world.treaties[t]
    if treaty.concluded():
        return [ALREADY_SO]
    if len(treaty.articles) == 0:
        return [NOT_SO]
    if not treaty.enough_join(0):
        return [NOT_ENOUGH]
    treaty.turn = 1 + len([other for other in world.treaties if other.concluded()])
    treaty.members = treaty.joiners(0)
    return [size(treaty.members)]


def rt_accede(world, t, i):
    treaty = world.treaties[t]
    if not treaty.concluded():
        return [NOT_SO]
    if treaty.is_member(i):
        return [ALREADY_SO]
    treaty.members |= BITS[i]
    return [size(treaty.members)]


def rt_leave(world, t, i):
    treaty = world.treaties[t]
    if not treaty.is_member(i):
        return [NOT_SO]
    treaty.leave(i)
    return [size(treaty.members)]


def rt_reserve(world, t, i, a):
    treaty = world.treaties[t]
    if not treaty.is_member(i):
        return [NOT_SO]
    if treaty.has_reserved(i, a):
        return [ALREADY_SO]
    treaty.reserved[i] |= BITS[a]
    return [size(treaty.reserved[i])]


def rt_unreserve(world, t, i, a):
    treaty = world.treaties[t]
    if not treaty.has_reserved(i, a):
        return [NOT_SO]
    treaty.unreserve(i, a)
    return [size(treaty.reserved[i])]


def rt_object(world, t, j, i):
    treaty = world.treaties[t]
    if j == i:
        return [WRONG]
    if not treaty.is_member(j) or treaty.reserved[i] == 0:
        return [NOT_SO]
    if treaty.objects(j, i):
        return [ALREADY_SO]
    treaty.objected[j] |= BITS[i]
    return [treaty.objections()]


START = 0

CHANGES = {
    1: rt_treaty,
    2: rt_article,
    3: rt_offer,
    4: rt_unoffer,
    8: rt_conclude,
    9: rt_accede,
    10: rt_leave,
    11: rt_reserve,
    12: rt_unreserve,
    13: rt_object,
}

QUESTIONS = {
    5: rt_joiners,
    6: rt_waits,
    7: rt_first,
}

# By the call's number. The names count: t is a treaty, i and j are states, a is an article of treaty t.
PARAMETERS = (
    ("n",),
    ("need",),
    ("t", "s", "x"),
    ("t", "i", "need", "named"),
    ("t", "i"),
    ("t",),
    ("t",),
    ("t",),
    ("t",),
    ("t", "i"),
    ("t", "i"),
    ("t", "i", "a"),
    ("t", "i", "a"),
    ("t", "j", "i"),
)


# t stands ahead of a wherever both do, so treaty t is there by the time its articles are looked at.
def lacks(world, names, told):
    for name, number in zip(names, told):
        if name == "t" and number >= len(world.treaties):
            return True
        if name in ("i", "j") and number >= world.states:
            return True
        if name == "a" and number >= len(world.treaties[told[0]].articles):
            return True
    return False


def called(call, world, told):
    if len(told) == 1:
        return call(world, told[0])
    if len(told) == 2:
        return call(world, told[0], told[1])
    if len(told) == 3:
        return call(world, told[0], told[1], told[2])
    return call(world, told[0], told[1], told[2], told[3])


class Registry:
    # Ahead of the first start there is nothing in the world that a call could tell of.
    def __init__(self):
        self.world = World(0)
        self.past = []

    def begin(self, n):
        if n < 2 or n > 4:
            return [WRONG]
        self.world = World(n)
        self.past = []
        return [0]

    # The call is made on a copy, so that the world before it stays to be gone back to.
    def change(self, call, told):
        world = self.world.copied()
        answer = called(call, world, told)
        if answer[0] >= 0:
            self.past = (self.past + [self.world])[-MOST_BACK:]
            self.world = world
        return answer

    def answer(self, number, told):
        if number == START:
            return self.begin(told[0])
        if lacks(self.world, PARAMETERS[number], told):
            return [NOT_THERE]
        if number in QUESTIONS:
            return called(QUESTIONS[number], self.world, told)
        return self.change(CHANGES[number], told)


def answers(calls):
    kept = Registry()
    given = []
    at = 0
    while at < len(calls):
        number = calls[at]
        behind = at + 1 + len(PARAMETERS[number])
        answer = kept.answer(number, calls[at + 1:behind])
        given.append(len(answer))
        given.extend(answer)
        at = behind
    return given
