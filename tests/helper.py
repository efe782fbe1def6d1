"""Calls by name, and answers split call by call, for all the tests."""

from treatyregistry.registry import answers

NAMES = (
    "rt_start", "rt_treaty", "rt_article", "rt_offer", "rt_unoffer", "rt_joiners", "rt_waits", "rt_first",
    "rt_conclude", "rt_accede", "rt_leave", "rt_reserve", "rt_unreserve", "rt_object",
)
NUMBERS = {name: number for number, name in enumerate(NAMES)}

GREATEST = 4294967295


def flat(calls):
    numbers = []
    for call in calls:
        numbers.append(NUMBERS[call[0]])
        numbers.extend(call[1:])
    return numbers


def split(given):
    rows = []
    at = 0
    while at < len(given):
        behind = at + 1 + given[at]
        rows.append(given[at + 1:behind])
        at = behind
    return rows


def ask(calls):
    """What is answered of each call of a line, a list each."""
    return split(answers(flat(calls)))


def last(calls):
    return ask(calls)[-1]


def concluded(members, articles=1, t=0):
    """Calls that make treaty t, with so many articles, and conclude it with these members."""
    calls = [("rt_treaty", 2)]
    calls += [("rt_article", t, 0, 50)] * articles
    calls += [("rt_offer", t, i, 0, 0) for i in members]
    return calls + [("rt_conclude", t)]


def signed(states, members, articles=1):
    """A whole line's beginning: so many states, and treaty 0 concluded with these members."""
    return [("rt_start", states)] + concluded(members, articles)


def probe(states, treaties):
    """Calls that show what calls 0 to 13 can show of a registry, all but the offers one by one."""
    calls = []
    for t in range(treaties):
        calls += [("rt_joiners", t), ("rt_waits", t), ("rt_first", t)]
        # Who reserved what: a member that reserved article a is refused it a second time.
        calls += [("rt_reserve", t, i, a) for i in range(states) for a in range(4)]
        # Now every member has something reserved, so who objects to whom shows too.
        calls += [("rt_object", t, j, i) for j in range(states) for i in range(states)]
        calls += [("rt_accede", t, i) for i in range(states)]
        for i in range(states):
            calls += [("rt_unoffer", t, i), ("rt_joiners", t), ("rt_waits", t), ("rt_first", t)]
        calls += [("rt_article", t, 0, 0)] * 5
        calls += [("rt_offer", t, i, 0, 0) for i in range(states + 1)]
        calls += [("rt_conclude", t)]
    calls += [("rt_treaty", states + 1), ("rt_treaty", states)]
    return calls + [("rt_treaty", 2)] * 4


def probe_offer(states, t, i):
    """Calls that show by which sets of others state i's offer holds: each set in turn joins for certain."""
    calls = []
    for together in range(2 ** states):
        others = [j for j in range(states) if j != i]
        calls += [("rt_offer", t, j, 0, 0) for j in others if together >> j & 1]
        calls += [("rt_unoffer", t, j) for j in others if not together >> j & 1]
        calls += [("rt_joiners", t)]
    return calls


def seen(before, states, treaties):
    """All that can be seen of the registry behind these calls."""
    probes = [probe(states, treaties)]
    probes += [probe_offer(states, t, i) for t in range(treaties) for i in range(states)]
    return [ask(before + calls)[len(before):] for calls in probes]
