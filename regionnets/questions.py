"""Questions about what's seen, and whether regions tell it apart.

A question is (TWO_STATES, state, state) or (STATE_AND_EVENT, state, event).
"""

from regionnets.regions import ENTERS, LEAVES

TWO_STATES = 0
STATE_AND_EVENT = 1


def questions_in_order(seen):
    return questions_of_two_states(seen) + questions_of_state_and_event(seen)


def questions_of_two_states(seen):
    asked = []
    for lesser in range(seen.n):
        for greater in range(lesser + 1, seen.n):
            asked.append((TWO_STATES, lesser, greater))
    return asked


def questions_of_state_and_event(seen):
    asked = []
    for state in range(seen.n):
        for event in range(seen.k):
            if not seen.has_arc(state, event):
                asked.append((STATE_AND_EVENT, state, event))
    return asked


def tells_apart(region, question):
    has_state = question[1] in region.states
    if question[0] == TWO_STATES:
        return has_state != (question[2] in region.states)
    way = region.ways[question[2]]
    return way == (ENTERS if has_state else LEAVES)


def is_told_apart(regions, question):
    for region in regions:
        if tells_apart(region, question):
            return True
    return False


def open_questions(seen, regions):
    return [question for question in questions_in_order(seen) if not is_told_apart(regions, question)]
