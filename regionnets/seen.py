"""What's seen: states, events, and the arcs that lead from state to state.

An arc is told as (state, event, state). Seen keeps of each event its arcs as (from, to).
"""

MOST_STATES = 9
MOST_EVENTS = 6
NUMBERS_OF_AN_ARC = 3

NOT_REFUSED = 0
NOT_THERE = -1
ILL_FORMED = -3
NOT_AS_SAID = -4


class Seen:
    def __init__(self, n, k, arcs):
        self.n = n
        self.k = k
        self.arcs_by_event = [arcs_by(event, arcs) for event in range(k)]

    def has_arc(self, state, event):
        return any([arc[0] == state for arc in self.arcs_by_event[event]])


def arcs_by(event, arcs):
    return [(arc[0], arc[2]) for arc in arcs if arc[1] == event]


def seen_before_any_begin():
    return Seen(1, 1, [(0, 0, 0)])


def arcs_told(numbers):
    arcs = []
    for start in range(0, len(numbers), NUMBERS_OF_AN_ARC):
        arcs.append((numbers[start], numbers[start + 1], numbers[start + 2]))
    return arcs


# The order of the checks is a promise: of several refusals the one told first is answered.
def refusal_of(n, k, numbers):
    if not (1 <= n <= MOST_STATES and 1 <= k <= MOST_EVENTS):
        return NOT_THERE
    if len(numbers) % NUMBERS_OF_AN_ARC != 0:
        return ILL_FORMED
    arcs = arcs_told(numbers)
    if not all([is_there(n, k, arc) for arc in arcs]):
        return NOT_THERE
    if has_a_fork(arcs) or lacks_an_event(k, arcs) or lacks_a_state(n, arcs):
        return NOT_AS_SAID
    return NOT_REFUSED


def is_there(n, k, arc):
    return arc[0] < n and arc[1] < k and arc[2] < n


# The states that arcs lead to don't count here, so the same arc told twice is a fork too.
def has_a_fork(arcs):
    return len(set([(arc[0], arc[1]) for arc in arcs])) < len(arcs)


def lacks_an_event(k, arcs):
    return len(set([arc[1] for arc in arcs])) < k


def lacks_a_state(n, arcs):
    come_to = [state == 0 for state in range(n)]
    grown = True
    while grown:
        grown = False
        for arc in arcs:
            if come_to[arc[0]] and not come_to[arc[2]]:
                come_to[arc[2]] = True
                grown = True
    return not all(come_to)
