"""Ways in which events cross some states, and the regions.

A Region keeps its states, rising, and of each event the way in which it crosses them.
"""

STAYS = 0
ENTERS = 1
LEAVES = 2
NO_WAY = -1


class Region:
    def __init__(self, states, ways):
        self.states = states
        self.ways = ways


def ways_across(seen, states):
    inside = [state in states for state in range(seen.n)]
    return [way_of_event(arcs, inside) for arcs in seen.arcs_by_event]


# Each event has some arc, so its first one leaves a single way that may fit all of them.
def way_of_event(arcs, inside):
    way = way_of_arc(arcs[0], inside)
    for arc in arcs:
        if way_of_arc(arc, inside) != way:
            return NO_WAY
    return way


def way_of_arc(arc, inside):
    if inside[arc[0]] == inside[arc[1]]:
        return STAYS
    return ENTERS if inside[arc[1]] else LEAVES


def regions_in_order(seen):
    found = []
    for states in choices_in_order(seen.n):
        ways = ways_across(seen, states)
        if NO_WAY not in ways:
            found.append(Region(states, ways))
    return found


# A region has not none and not all of the states, so the choices end one short of n.
def choices_in_order(n):
    found = []
    largest = [[]]
    while len(largest[0]) < n - 1:
        largest = with_one_more(largest, n)
        found.extend(largest)
    return found


# A row gets states above its last one only, rising: so rows that are in order stay in order.
def with_one_more(rows, n):
    longer = []
    for row in rows:
        lowest = row[-1] + 1 if len(row) > 0 else 0
        for state in range(lowest, n):
            longer.append(row + [state])
    return longer
