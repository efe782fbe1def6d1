"""The calls that change a world or ask of it: each is given the world and the call's numbers, and answers a list."""

from treatyregistry.treaty import BITS, Treaty, size
from treatyregistry.world import MOST_STATES, MOST_TAKEN

NOT_THERE = -2
NOT_SO = -6
CONCLUDED = -16
ALREADY_SO = -17
WRONG = -22
FULL = -28
TOO_LITTLE = -33

MOST_TREATIES = 4
MOST_ARTICLES = 4
SUBJECTS = 4


# That each treaty, state and article a call tells of is there has been looked at before (registry.lacks).


def rt_treaty(world, need):
    if need < 2 or need > world.states:
        return [WRONG]
    if len(world.treaties) >= MOST_TREATIES:
        return [FULL]
    world.treaties.append(Treaty(need))
    return [len(world.treaties) - 1]


def rt_article(world, t, s, x):
    treaty = world.treaties[t]
    if s >= SUBJECTS or x > MOST_TAKEN:
        return [WRONG]
    if treaty.concluded():
        return [CONCLUDED]
    if len(treaty.articles) >= MOST_ARTICLES:
        return [FULL]
    treaty.articles.append((s, x))
    return [len(treaty.articles) - 1]


def rt_offer(world, t, i, need, named):
    treaty = world.treaties[t]
    if need > world.states or named >> world.states or named & BITS[i]:
        return [WRONG]
    if treaty.concluded():
        return [CONCLUDED]
    had = 0 if treaty.offers[i] is None else 1
    treaty.offers[i] = (need, named)
    return [had]


def rt_unoffer(world, t, i):
    treaty = world.treaties[t]
    if treaty.concluded():
        return [CONCLUDED]
    if treaty.offers[i] is None:
        return [NOT_SO]
    treaty.offers[i] = None
    return [size(treaty.offered())]


def rt_joiners(world, t):
    treaty = world.treaties[t]
    if treaty.concluded():
        return [CONCLUDED]
    together = treaty.joiners(0)
    return [size(together), together]


def rt_waits(world, t):
    treaty = world.treaties[t]
    if treaty.concluded():
        return [CONCLUDED]
    waiting = treaty.offered() & ~treaty.joiners(0)
    return [size(waiting), waiting]


def rt_first(world, t):
    treaty = world.treaties[t]
    if treaty.concluded():
        return [CONCLUDED]
    if not treaty.enough_join(treaty.offered()):
        return [TOO_LITTLE]
    fewest = treaty.first()
    return [size(fewest), fewest]


def rt_conclude(world, t):
    treaty = world.treaties[t]
    if treaty.concluded():
        return [ALREADY_SO]
    if len(treaty.articles) == 0:
        return [NOT_SO]
    if not treaty.enough_join(0):
        return [TOO_LITTLE]
    treaty.turn = world.turns() + 1
    treaty.members = treaty.joiners(0)
    return [size(treaty.members)]


def rt_accede(world, t, i):
    treaty = world.treaties[t]
    if not treaty.concluded():
        return [NOT_SO]
    if treaty.is_member(i):
        return [ALREADY_SO]
    treaty.members |= BITS[i]
    return [size(treaty.members)]


def rt_leave(world, t, i):
    treaty = world.treaties[t]
    if not treaty.is_member(i):
        return [NOT_SO]
    treaty.leave(i)
    return [size(treaty.members)]


def rt_reserve(world, t, i, a):
    treaty = world.treaties[t]
    if not treaty.is_member(i):
        return [NOT_SO]
    if treaty.has_reserved(i, a):
        return [ALREADY_SO]
    treaty.reserved[i] |= BITS[a]
    return [size(treaty.reserved[i])]


def rt_unreserve(world, t, i, a):
    treaty = world.treaties[t]
    if not treaty.has_reserved(i, a):
        return [NOT_SO]
    treaty.unreserve(i, a)
    return [size(treaty.reserved[i])]


def rt_object(world, t, j, i):
    treaty = world.treaties[t]
    if j == i:
        return [WRONG]
    if not treaty.is_member(j) or treaty.reserved[i] == 0:
        return [NOT_SO]
    if treaty.objects(j, i):
        return [ALREADY_SO]
    treaty.objected[j] |= BITS[i]
    return [treaty.objections()]


def rt_accept(world, t, j, i):
    treaty = world.treaties[t]
    if not treaty.objects(j, i):
        return [NOT_SO]
    treaty.objected[j] &= ~BITS[i]
    return [treaty.objections()]


def rt_favour(world, i, j):
    if i == j:
        return [WRONG]
    if world.favours(i, j):
        return [ALREADY_SO]
    world.favoured[i] |= BITS[j]
    return [world.all_favours()]


def rt_unfavour(world, i, j):
    if not world.favours(i, j):
        return [NOT_SO]
    world.favoured[i] &= ~BITS[j]
    return [world.all_favours()]


def rt_part(world, i, mode):
    if mode > 1:
        return [WRONG]
    if world.states >= MOST_STATES:
        return [FULL]
    return [world.part(i, mode == 1)]


def rt_members(world, t):
    treaty = world.treaties[t]
    return [size(treaty.members), treaty.members, treaty.turn]


def rt_between(world, t, i, j):
    if i == j:
        return [WRONG]
    return [1 if world.treaties[t].between(i, j) else 0]


def rt_applies(world, t, i, j, a):
    if i == j:
        return [WRONG]
    return [1 if world.treaties[t].applies(i, j, a) else 0]


def rt_rule(world, i, j, s):
    if i == j or s >= SUBJECTS:
        return [WRONG]
    found = world.ahead(i, j, s)
    if found is None:
        return [TOO_LITTLE]
    return [found[0], found[1], world.amount(found[0], found[1])]


def rt_takes(world, i, j, s):
    if i == j or s >= SUBJECTS:
        return [WRONG]
    return [world.takes(i, j, s)]


def rt_table(world, s):
    if s >= SUBJECTS:
        return [WRONG]
    pairs = 0
    taken = 0
    for i in range(world.states):
        for j in range(i):
            pairs += 0 if world.ahead(i, j, s) is None else 1
            taken += world.takes(i, j, s) + world.takes(j, i, s)
    return [pairs, taken]


def rt_told(world, t):
    treaty = world.treaties[t]
    told = [len(treaty.articles), treaty.need]
    for article in treaty.articles:
        told.extend(article)
    return told + [0, 0] * (MOST_ARTICLES - len(treaty.articles))


CHANGES = {
    1: rt_treaty,
    2: rt_article,
    3: rt_offer,
    4: rt_unoffer,
    8: rt_conclude,
    9: rt_accede,
    10: rt_leave,
    11: rt_reserve,
    12: rt_unreserve,
    13: rt_object,
    14: rt_accept,
    15: rt_favour,
    16: rt_unfavour,
    17: rt_part,
}

QUESTIONS = {
    5: rt_joiners,
    6: rt_waits,
    7: rt_first,
    18: rt_members,
    19: rt_between,
    20: rt_applies,
    21: rt_rule,
    22: rt_takes,
    23: rt_table,
    24: rt_told,
}
