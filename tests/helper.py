"""Calls by name, and answers split call by call, for all the tests."""

from treatyregistry.registry import answers

NAMES = (
    "rt_start", "rt_treaty", "rt_article", "rt_offer", "rt_unoffer", "rt_joiners", "rt_waits", "rt_first",
    "rt_conclude", "rt_accede", "rt_leave", "rt_reserve", "rt_unreserve", "rt_object", "rt_accept", "rt_favour",
    "rt_unfavour", "rt_part", "rt_members", "rt_between", "rt_applies", "rt_rule", "rt_takes", "rt_table", "rt_told",
    "rt_back", "rt_again", "rt_state",
)
NUMBERS = {name: number for number, name in enumerate(NAMES)}

GREATEST = 4294967295

PAIRS = [(i, j) for i in range(6) for j in range(6) if i != j]

# All that calls that only ask can tell of a registry. Of what isn't there they tell that it isn't.
ASKING = (
    [(name, t) for name in ("rt_told", "rt_members", "rt_joiners", "rt_waits", "rt_first") for t in range(4)]
    + [("rt_between", t, i, j) for t in range(4) for i, j in PAIRS]
    + [("rt_applies", t, i, j, a) for t in range(4) for i, j in PAIRS for a in range(4)]
    + [(name, i, j, s) for name in ("rt_rule", "rt_takes") for i, j in PAIRS for s in range(4)]
    + [("rt_table", s) for s in range(4)]
    + [("rt_state",)]
)


def flat(calls):
    numbers = []
    for call in calls:
        numbers.append(NUMBERS[call[0]])
        numbers.extend(call[1:])
    return numbers


def split(given):
    rows = []
    at = 0
    while at < len(given):
        behind = at + 1 + given[at]
        rows.append(given[at + 1:behind])
        at = behind
    return rows


def ask(calls):
    """What is answered of each call of a line, a list each."""
    numbers = flat(calls)
    assert len(calls) <= 1000 and len(numbers) <= 6000, "no such line is ever handed in"
    return split(answers(numbers))


def last(calls):
    return ask(calls)[-1]


def concluded(members, articles=1, t=0):
    """Calls that make treaty t, with so many articles, and conclude it with these members."""
    calls = [("rt_treaty", 2)]
    calls += [("rt_article", t, 0, 50)] * articles
    calls += [("rt_offer", t, i, 0, 0) for i in members]
    return calls + [("rt_conclude", t)]


def started(states):
    """A whole line's beginning: 2 to 6 states, those behind the fourth parted from state 0 without treaties."""
    return [("rt_start", min(states, 4))] + [("rt_part", 0, 0)] * (states - 4)


def signed(states, members, articles=1):
    """A whole line's beginning: so many states, and treaty 0 concluded with these members."""
    return started(states) + concluded(members, articles)


def treaty(t, articles, members):
    """Calls that make treaty t, with these articles (subject, how much), and conclude it with these members."""
    calls = [("rt_treaty", 2)] + [("rt_article", t, s, x) for s, x in articles]
    return calls + [("rt_offer", t, i, 0, 0) for i in members] + [("rt_conclude", t)]


def asked(before):
    """What all calls that ask answer behind these."""
    return ask(before + ASKING)[len(before):]


def looked(before):
    """The same, but for how many changes can be taken back and done again."""
    told = asked(before)
    return told[:-1] + [told[-1][:4]]


def steps(before):
    """How many changes can be taken back and how many done again behind these calls."""
    return tuple(last(before + [("rt_state",)])[4:])


def probe(states, treaties):
    """Calls that bring about what asking doesn't tell: who reserved what, objects and favours, all but the offers."""
    calls = [("rt_favour", i, j) for i in range(states) for j in range(states)]
    for t in range(treaties):
        calls += [("rt_joiners", t), ("rt_waits", t), ("rt_first", t)]
        # Who reserved what: a member that reserved article a is refused it a second time.
        calls += [("rt_reserve", t, i, a) for i in range(states) for a in range(4)]
        # Now every member has something reserved, so who objects to whom shows too.
        calls += [("rt_object", t, j, i) for j in range(states) for i in range(states)]
        calls += [("rt_accede", t, i) for i in range(states)]
        for i in range(states):
            calls += [("rt_unoffer", t, i), ("rt_joiners", t), ("rt_waits", t), ("rt_first", t)]
        calls += [("rt_article", t, 0, 0)] * 5
        calls += [("rt_offer", t, i, 0, 0) for i in range(states + 1)]
        calls += [("rt_conclude", t)]
    calls += [("rt_treaty", states + 1), ("rt_treaty", states)]
    return calls + [("rt_treaty", 2)] * 4


def probe_offer(states, t, i):
    """Calls that show by which sets of others state i's offer holds: each set in turn joins for certain."""
    calls = []
    for together in range(2 ** states):
        others = [j for j in range(states) if j != i]
        calls += [("rt_offer", t, j, 0, 0) for j in others if together >> j & 1]
        calls += [("rt_unoffer", t, j) for j in others if not together >> j & 1]
        calls += [("rt_joiners", t)]
    return calls


def seen(before, states, treaties):
    """All that can be seen of the registry behind these calls, and of what it goes back to and on to."""
    probes = [ASKING, probe(states, treaties)]
    probes += [probe_offer(states, t, i) for t in range(treaties) for i in range(states)]
    probes += [[("rt_back",)] * many + ASKING for many in (1, 2, 21)]
    probes += [[("rt_again",)] * many + ASKING for many in (1, 2, 21)]
    return [ask(before + calls)[len(before):] for calls in probes]
