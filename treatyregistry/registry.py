"""The object that calls are made on, and answers(calls), which goes through a list of them."""

from treatyregistry.operations import CHANGES, NOT_THERE, QUESTIONS, WRONG
from treatyregistry.world import World

MOST_BACK = 20

START = 0
BACK = 25
AGAIN = 26
STATE = 27

# By the call's number. The names count: t is a treaty, i and j are states, a is an article of treaty t.
PARAMETERS = (
    ("n",),
    ("need",),
    ("t", "s", "x"),
    ("t", "i", "need", "named"),
    ("t", "i"),
    ("t",),
    ("t",),
    ("t",),
    ("t",),
    ("t", "i"),
    ("t", "i"),
    ("t", "i", "a"),
    ("t", "i", "a"),
    ("t", "j", "i"),
    ("t", "j", "i"),
    ("i", "j"),
    ("i", "j"),
    ("i", "mode"),
    ("t",),
    ("t", "i", "j"),
    ("t", "i", "j", "a"),
    ("i", "j", "s"),
    ("i", "j", "s"),
    ("s",),
    ("t",),
    (),
    (),
    (),
)


# t stands ahead of a wherever both do, so treaty t is there by the time its articles are looked at.
def lacks(world, names, told):
    for name, number in zip(names, told):
        if name == "t" and number >= len(world.treaties):
            return True
        if name in ("i", "j") and number >= world.states:
            return True
        if name == "a" and number >= len(world.treaties[told[0]].articles):
            return True
    return False


def called(call, world, told):
    if len(told) == 1:
        return call(world, told[0])
    if len(told) == 2:
        return call(world, told[0], told[1])
    if len(told) == 3:
        return call(world, told[0], told[1], told[2])
    return call(world, told[0], told[1], told[2], told[3])


class Registry:
    # Ahead of the first start there is nothing in the world that a call could tell of.
    def __init__(self):
        self.world = World(0)
        self.past = []
        self.undone = []

    def begin(self, n):
        if n < 2 or n > 4:
            return [WRONG]
        self.world = World(n)
        self.past = []
        self.undone = []
        return [0]

    # The call is made on a copy, so that the world before it stays to be gone back to.
    def change(self, call, told):
        world = self.world.copied()
        answer = called(call, world, told)
        if answer[0] >= 0:
            self.past = (self.past + [self.world])[-MOST_BACK:]
            self.undone = []
            self.world = world
        return answer

    def back(self):
        if len(self.past) == 0:
            return [NOT_THERE]
        self.undone.append(self.world)
        self.world = self.past.pop()
        return [len(self.past)]

    def again(self):
        if len(self.undone) == 0:
            return [NOT_THERE]
        self.past.append(self.world)
        self.world = self.undone.pop()
        return [len(self.undone)]

    def state(self):
        world = self.world
        counts = [world.states, world.all_favours(), world.turns(), len(self.past), len(self.undone)]
        return [len(world.treaties)] + counts

    def answer(self, number, told):
        if number == START:
            return self.begin(told[0])
        if number == BACK:
            return self.back()
        if number == AGAIN:
            return self.again()
        if number == STATE:
            return self.state()
        if lacks(self.world, PARAMETERS[number], told):
            return [NOT_THERE]
        if number in QUESTIONS:
            return called(QUESTIONS[number], self.world, told)
        return self.change(CHANGES[number], told)


def answers(calls):
    kept = Registry()
    given = []
    at = 0
    while at < len(calls):
        number = calls[at]
        behind = at + 1 + len(PARAMETERS[number])
        answer = kept.answer(number, calls[at + 1:behind])
        given.append(len(answer))
        given.extend(answer)
        at = behind
    return given
