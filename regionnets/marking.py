"""How a net's places are marked, and what events do to them.

Places go by their numbers, from 0. A marking has of each place 1 if it's marked, else 0.
"""

from regionnets.regions import ENTERS, LEAVES


class Net:
    def __init__(self, places, k):
        self.first_marking = [1 if 0 in place.states else 0 for place in places]
        self.left_by_event = [places_crossed(places, event, LEAVES) for event in range(k)]
        self.entered_by_event = [places_crossed(places, event, ENTERS) for event in range(k)]

    def may_happen(self, event, marking):
        left = [marking[place] for place in self.left_by_event[event]]
        entered = [marking[place] for place in self.entered_by_event[event]]
        return 0 not in left and 1 not in entered

    def marking_behind(self, event, marking):
        changed = list(marking)
        for place in self.left_by_event[event]:
            changed[place] = 0
        for place in self.entered_by_event[event]:
            changed[place] = 1
        return changed

    def next_markings(self, marking):
        happening = [event for event in range(len(self.left_by_event)) if self.may_happen(event, marking)]
        return [self.marking_behind(event, marking) for event in happening]


def places_crossed(places, event, way):
    return [number for number in range(len(places)) if places[number].ways[event] == way]


# A marking that is known already leads to no new ones, so each is gone on from just once.
def markings_come_to(net, most_events):
    known = {tuple(net.first_marking): True}
    newest = [net.first_marking]
    for turn in range(most_events):
        found = []
        for marking in newest:
            for behind in net.next_markings(marking):
                if tuple(behind) not in known:
                    known[tuple(behind)] = True
                    found.append(behind)
        newest = found
    return list(known)
