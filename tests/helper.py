"""What the tests share: writing calls, splitting answers, and a second reckoning straight from the words."""

from itertools import combinations, product

from regionnets.nets import answers

HIGHEST = 2 ** 64 - 1


def begin(n, k, arcs):
    """arcs: either (state, event, state) tuples or bare numbers."""
    numbers = []
    for arc in arcs:
        numbers.extend(arc if isinstance(arc, tuple) else [arc])
    return [1, n, k, len(numbers)] + numbers


def crosses(*states):
    return [3, len(states)] + list(states)


def play(*events):
    return [7, len(events)] + list(events)


REGIONS = [2]
OPEN_ONES = [4]
PLACES = [5]
NET = [6]
SAME = [8]


def ask(*calls):
    """The answers, a list for each call."""
    flat = []
    for call in calls:
        flat.extend(call)
    given = answers(flat)
    split = []
    at = 0
    while at < len(given):
        split.append(given[at + 1:at + 1 + given[at]])
        at += 1 + given[at]
    if len(split) != len(calls) or at != len(given):
        raise AssertionError(f"{len(calls)} calls, but answered was {given}")
    return split


def ask_of(telling, calls):
    """The answers to any number of calls about one telling (n, k, arcs)."""
    told = []
    for start in range(0, len(calls), 59):
        told.extend(ask(begin(*telling), *calls[start:start + 59])[1:])
    return told


def flat_rows(rows):
    """How many rows, then of each how many numbers, these."""
    numbers = [len(rows)]
    for row in rows:
        numbers.append(len(row))
        numbers.extend(row)
    return numbers


def rows_told(numbers, counted=True):
    rows = []
    at = 1
    while at < len(numbers):
        rows.append(numbers[at + 1:at + 1 + numbers[at]])
        at += 1 + numbers[at]
    if counted and len(rows) != numbers[0]:
        raise AssertionError(f"not as many rows as told: {numbers}")
    return rows


# The second reckoning.

def is_as_said(n, k, arcs):
    if len({(s, e) for s, e, t in arcs}) != len(arcs) or {e for s, e, t in arcs} != set(range(k)):
        return False
    come_to = {0}
    for step in range(n):
        come_to |= {t for s, e, t in arcs if s in come_to}
    return come_to == set(range(n))


def expected_way(arcs, states, event):
    own = [(s in states, t in states) for s, e, t in arcs if e == event]
    if all(s == t for s, t in own):
        return 0
    if all(not s and t for s, t in own):
        return 1
    if all(s and not t for s, t in own):
        return 2
    return -1


def expected_crosses(k, arcs, states):
    ways = [expected_way(arcs, states, event) for event in range(k)]
    return [int(-1 not in ways)] + ways


def expected_regions(n, k, arcs):
    found = []
    for size in range(1, n):
        for states in combinations(range(n), size):
            if expected_crosses(k, arcs, states)[0] == 1:
                found.append(list(states))
    return sorted(found, key=lambda states: (len(states), states))


def expected_open(n, k, arcs):
    regions = [set(states) for states in expected_regions(n, k, arcs)]
    leaves = [[r for r in regions if expected_way(arcs, r, e) == 2] for e in range(k)]
    enters = [[r for r in regions if expected_way(arcs, r, e) == 1] for e in range(k)]
    found = []
    for s, t in combinations(range(n), 2):
        if not any(len(r & {s, t}) == 1 for r in regions):
            found.append([0, s, t])
    starts = {(s, e) for s, e, t in arcs}
    for s, e in product(range(n), range(k)):
        if (s, e) not in starts and all(s in r for r in leaves[e]) and not any(s in r for r in enters[e]):
            found.append([1, s, e])
    return [len(found)] + sum(found, [])


def expected_told(n, k, arcs, region):
    """The questions that a region tells apart."""
    told = [(0, s, t) for s, t in combinations(range(n), 2) if (s in region) != (t in region)]
    starts = {(s, e) for s, e, t in arcs}
    for e in range(k):
        way = expected_way(arcs, region, e)
        outside = [s for s in range(n) if (s, e) not in starts and s not in region]
        inside = [s for s in range(n) if (s, e) not in starts and s in region]
        told.extend((1, s, e) for s in {0: [], 1: inside, 2: outside}[way])
    return set(told)


def expected_places(n, k, arcs):
    still_there = expected_regions(n, k, arcs)
    told = {tuple(region): expected_told(n, k, arcs, region) for region in still_there}
    for region in still_there[::-1]:
        others = [other for other in still_there if other != region]
        if told[tuple(region)] <= set().union(*[told[tuple(other)] for other in others]):
            still_there = others
    return still_there


def expected_net(n, k, arcs):
    places = expected_places(n, k, arcs)
    numbers = [len(places)] + [int(0 in place) for place in places]
    for event in range(k):
        for way in (2, 1):
            crossed = [i for i, place in enumerate(places) if expected_way(arcs, place, event) == way]
            numbers.extend([len(crossed)] + crossed)
    return numbers


class Tokens:
    """Plays a net as the call net tells it: the set of the marked places, or None where an event may not happen."""

    def __init__(self, numbers):
        self.size = numbers[0]
        self.first = frozenset(place for place in range(self.size) if numbers[1 + place] == 1)
        rows = rows_told([0] + numbers[1 + self.size:], counted=False)
        self.left = [frozenset(row) for row in rows[::2]]
        self.entered = [frozenset(row) for row in rows[1::2]]

    def behind(self, marked, event):
        if event >= len(self.left) or not self.left[event] <= marked or self.entered[event] & marked:
            return None
        return marked - self.left[event] | self.entered[event]

    def behind_all(self, events):
        marked = self.first
        for event in events:
            marked = self.behind(marked, event)
            if marked is None:
                return None
        return marked

    def answer(self, events):
        """What play answers."""
        marked = self.behind_all(events)
        if marked is None:
            return [-6]
        return [len(events)] + [int(place in marked) for place in range(self.size)]

    def come_to(self, most_events):
        reached = {self.first}
        for turn in range(most_events):
            reached |= {self.behind(marked, event) for marked in reached for event in range(len(self.left))} - {None}
        return reached


def expected_same(n, k, arcs):
    come_to = Tokens(expected_net(n, k, arcs)).come_to(n + 1)
    return [int(expected_open(n, k, arcs) == [0]), len(come_to)]


# Tellings that several tests use.

def chain(n, events):
    """States in a row; events[s] leads from s to s + 1."""
    return [(s, events[s], s + 1) for s in range(n - 1)]


def cube():
    """8 states, three switches: event i turns switch i on, event 3 + i turns it off."""
    arcs = []
    for s in range(8):
        for i in range(3):
            arcs.append((s, i + 3 * (s >> i & 1), s ^ (1 << i)))
    return arcs


def two_rings():
    """9 states 3 * x + y; events 0 to 2 lead x around, 3 to 5 lead y around."""
    arcs = []
    for x, y in product(range(3), range(3)):
        arcs.append((3 * x + y, x, 3 * ((x + 1) % 3) + y))
        arcs.append((3 * x + y, 3 + y, 3 * x + (y + 1) % 3))
    return arcs


def more_than_seen():
    """6 states; events 2, 1, 2 lead on behind one another, event 0 is seen behind the first and the second alone.

    No region keeps event 0 from happening ahead of them or behind them.
    """
    return [(0, 2, 1), (1, 1, 2), (2, 2, 3), (1, 0, 4), (2, 0, 5)]


def far_more_than_seen():
    """9 states; the net comes to a marking by 20 events at the least."""
    return [(0, 4, 1), (1, 5, 2), (2, 2, 4), (3, 1, 6), (4, 0, 5), (4, 5, 8), (5, 2, 3), (6, 0, 7), (6, 3, 0)]


def everywhere(n, k):
    """An arc from every state by every event: as many as there may be."""
    return [(s, e, (s + e + 1) % n) for s in range(n) for e in range(k)]


def all_tellings(n, k):
    """Every choice of at most one arc from each state by each event, as said or not."""
    for targets in product(range(-1, n), repeat=n * k):
        yield [(i // k, i % k, t) for i, t in enumerate(targets) if t >= 0]


def scattered_numbers(seed):
    """Always the same ones for a seed, without an end."""
    drawn = seed
    while True:
        drawn = (drawn * 6364136223846793005 + 1442695040888963407) % 2 ** 64
        yield drawn >> 33


def scattered_tellings(count, seed):
    """Tellings of up to 9 states and 6 events, always the same ones for a seed, all as said."""
    numbers = scattered_numbers(seed)
    while count > 0:
        n = 2 + next(numbers) % 8
        k = 1 + next(numbers) % 6
        arcs = {(next(numbers) % (t + 1), next(numbers) % k): t + 1 for t in range(n - 1)}
        for extra in range(next(numbers) % 6):
            arcs[(next(numbers) % n, next(numbers) % k)] = next(numbers) % n
        told = [(s, e, arcs[(s, e)]) for s, e in arcs]
        if is_as_said(n, k, told):
            count -= 1
            yield n, k, told


def telling_of(tokens):
    """What a net does, as states and arcs: a state for each marking that it comes to, in the order in which it does."""
    k = len(tokens.left)
    markings = [tokens.first]
    arcs = []
    for s, marked in enumerate(markings):
        for e in range(k):
            behind = tokens.behind(marked, e)
            if behind is not None:
                markings.extend([behind] if behind not in markings else [])
                arcs.append((s, e, markings.index(behind)))
    return len(markings), k, arcs


def tellings_of_nets(count, seed):
    """What nets do that were made at will, always the same ones for a seed, all as said."""
    numbers = scattered_numbers(seed)
    while count > 0:
        size = 1 + next(numbers) % 6
        net = [size] + [next(numbers) % 2 for place in range(size)]
        for event in range(1 + next(numbers) % 6):
            ways = [next(numbers) % 4 for place in range(size)]
            for way in (2, 1):
                row = [place for place in range(size) if ways[place] == way]
                net.extend([len(row)] + row)
        n, k, arcs = telling_of(Tokens(net))
        if 4 < n < 10 and is_as_said(n, k, arcs):
            count -= 1
            yield n, k, arcs


SMALL_SIZES = [(1, 1), (1, 2), (1, 3), (2, 1), (2, 2), (2, 3), (3, 1), (3, 2), (4, 1)]


def known_tellings():
    """Every small telling that is as said, and larger ones."""
    for n, k in SMALL_SIZES:
        for arcs in all_tellings(n, k):
            if is_as_said(n, k, arcs):
                yield n, k, arcs
    yield 7, 6, chain(7, range(6))
    yield 9, 4, chain(9, [0, 1, 2, 3, 0, 1, 2, 3])
    yield 8, 6, cube()
    yield 9, 6, two_rings()
    yield 9, 6, everywhere(9, 6)
    yield 6, 3, more_than_seen()
    yield 9, 6, far_more_than_seen()
    yield from scattered_tellings(150, 7)
