"""What the tests share: writing calls, splitting answers, and a second reckoning straight from the words."""

from itertools import combinations, product

from regionnets.nets import answers

HIGHEST = 2 ** 64 - 1


def begin(n, k, arcs):
    """arcs: either (state, event, state) tuples or bare numbers."""
    numbers = []
    for arc in arcs:
        numbers.extend(arc if isinstance(arc, tuple) else [arc])
    return [1, n, k, len(numbers)] + numbers


def crosses(*states):
    return [3, len(states)] + list(states)


REGIONS = [2]
OPEN_ONES = [4]


def ask(*calls):
    """The answers, a list for each call."""
    flat = []
    for call in calls:
        flat.extend(call)
    given = answers(flat)
    split = []
    at = 0
    while at < len(given):
        split.append(given[at + 1:at + 1 + given[at]])
        at += 1 + given[at]
    if len(split) != len(calls) or at != len(given):
        raise AssertionError(f"{len(calls)} calls, but answered was {given}")
    return split


def flat_rows(rows):
    """How many rows, then of each how many numbers, these."""
    numbers = [len(rows)]
    for row in rows:
        numbers.append(len(row))
        numbers.extend(row)
    return numbers


def rows_told(numbers):
    rows = []
    at = 1
    while at < len(numbers):
        rows.append(numbers[at + 1:at + 1 + numbers[at]])
        at += 1 + numbers[at]
    if len(rows) != numbers[0]:
        raise AssertionError(f"not as many rows as told: {numbers}")
    return rows


# The second reckoning.

def is_as_said(n, k, arcs):
    if len({(s, e) for s, e, t in arcs}) != len(arcs) or {e for s, e, t in arcs} != set(range(k)):
        return False
    come_to = {0}
    for step in range(n):
        come_to |= {t for s, e, t in arcs if s in come_to}
    return come_to == set(range(n))


def expected_way(arcs, states, event):
    own = [(s in states, t in states) for s, e, t in arcs if e == event]
    if all(s == t for s, t in own):
        return 0
    if all(not s and t for s, t in own):
        return 1
    if all(s and not t for s, t in own):
        return 2
    return -1


def expected_crosses(k, arcs, states):
    ways = [expected_way(arcs, states, event) for event in range(k)]
    return [int(-1 not in ways)] + ways


def expected_regions(n, k, arcs):
    found = []
    for size in range(1, n):
        for states in combinations(range(n), size):
            if expected_crosses(k, arcs, states)[0] == 1:
                found.append(list(states))
    return sorted(found, key=lambda states: (len(states), states))


def expected_open(n, k, arcs):
    regions = [set(states) for states in expected_regions(n, k, arcs)]
    leaves = [[r for r in regions if expected_way(arcs, r, e) == 2] for e in range(k)]
    enters = [[r for r in regions if expected_way(arcs, r, e) == 1] for e in range(k)]
    found = []
    for s, t in combinations(range(n), 2):
        if not any(len(r & {s, t}) == 1 for r in regions):
            found.append([0, s, t])
    starts = {(s, e) for s, e, t in arcs}
    for s, e in product(range(n), range(k)):
        if (s, e) not in starts and all(s in r for r in leaves[e]) and not any(s in r for r in enters[e]):
            found.append([1, s, e])
    return [len(found)] + sum(found, [])


# Tellings that several tests use.

def chain(n, events):
    """States in a row; events[s] leads from s to s + 1."""
    return [(s, events[s], s + 1) for s in range(n - 1)]


def cube():
    """8 states, three switches: event i turns switch i on, event 3 + i turns it off."""
    arcs = []
    for s in range(8):
        for i in range(3):
            arcs.append((s, i + 3 * (s >> i & 1), s ^ (1 << i)))
    return arcs


def two_rings():
    """9 states 3 * x + y; events 0 to 2 lead x around, 3 to 5 lead y around."""
    arcs = []
    for x, y in product(range(3), range(3)):
        arcs.append((3 * x + y, x, 3 * ((x + 1) % 3) + y))
        arcs.append((3 * x + y, 3 + y, 3 * x + (y + 1) % 3))
    return arcs


def everywhere(n, k):
    """An arc from every state by every event: as many as there may be."""
    return [(s, e, (s + e + 1) % n) for s in range(n) for e in range(k)]


def all_tellings(n, k):
    """Every choice of at most one arc from each state by each event, as said or not."""
    for targets in product(range(-1, n), repeat=n * k):
        yield [(i // k, i % k, t) for i, t in enumerate(targets) if t >= 0]


def scattered_tellings(count, seed):
    """Tellings of up to 9 states and 6 events, always the same ones for a seed, all as said."""
    drawn = seed
    while count > 0:
        numbers = []
        for turn in range(90):
            drawn = (drawn * 6364136223846793005 + 1442695040888963407) % 2 ** 64
            numbers.append(drawn >> 33)
        n = 2 + numbers.pop() % 8
        k = 1 + numbers.pop() % 6
        arcs = {(numbers.pop() % (t + 1), numbers.pop() % k): t + 1 for t in range(n - 1)}
        for extra in range(numbers.pop() % 6):
            arcs[(numbers.pop() % n, numbers.pop() % k)] = numbers.pop() % n
        told = [(s, e, arcs[(s, e)]) for s, e in arcs]
        if is_as_said(n, k, told):
            count -= 1
            yield n, k, told


SMALL_SIZES = [(1, 1), (1, 2), (1, 3), (2, 1), (2, 2), (2, 3), (3, 1), (3, 2), (4, 1)]


def known_tellings():
    """Every small telling that is as said, and larger ones."""
    for n, k in SMALL_SIZES:
        for arcs in all_tellings(n, k):
            if is_as_said(n, k, arcs):
                yield n, k, arcs
    yield 7, 6, chain(7, range(6))
    yield 9, 4, chain(9, [0, 1, 2, 3, 0, 1, 2, 3])
    yield 8, 6, cube()
    yield 9, 6, two_rings()
    yield 9, 6, everywhere(9, 6)
    yield from scattered_tellings(150, 7)
