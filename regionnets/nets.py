"""The calls about one telling of states and arcs, and their answers.

answers(calls) takes a list of calls and gives back, for each, how many numbers are answered, then these.
"""

from regionnets.marking import Net, markings_come_to
from regionnets.places import places_in_order
from regionnets.questions import open_questions
from regionnets.reader import Reader
from regionnets.regions import NO_WAY, regions_in_order, ways_across
from regionnets.seen import ILL_FORMED, NOT_REFUSED, Seen, arcs_told, refusal_of, seen_before_any_begin

BEGIN = 1
REGIONS = 2
CROSSES = 3
OPEN_ONES = 4
PLACES = 5
NET = 6
PLAY = 7
SAME = 8

MAY_NOT_HAPPEN = -6


class NoSuchCall(ValueError):
    pass


# What the calls ask of is reckoned once for each telling, as only begin changes it.
class Line:
    def __init__(self):
        self.tell(seen_before_any_begin())

    def tell(self, seen):
        self.seen = seen
        self.regions_seen = regions_in_order(seen)
        self.places_kept = places_in_order(seen, self.regions_seen)
        self.net_made = Net(self.places_kept, seen.k)

    def begin(self, n, k, numbers):
        refusal = refusal_of(n, k, numbers)
        if refusal != NOT_REFUSED:
            return [refusal]
        arcs = arcs_told(numbers)
        self.tell(Seen(n, k, arcs))
        return [len(arcs)]

    def regions(self):
        return regions_counted(self.regions_seen)

    def crosses(self, states):
        if not (is_rising(states) and all([state < self.seen.n for state in states])):
            return [ILL_FORMED]
        ways = ways_across(self.seen, states)
        return [0 if NO_WAY in ways else 1] + ways

    def open_ones(self):
        found = open_questions(self.seen, self.regions_seen)
        answer = [len(found)]
        for question in found:
            answer.extend(question)
        return answer

    def places(self):
        return regions_counted(self.places_kept)

    def net(self):
        answer = counted(self.net_made.first_marking)
        for event in range(self.seen.k):
            answer.extend(counted(self.net_made.left_by_event[event]))
            answer.extend(counted(self.net_made.entered_by_event[event]))
        return answer

    def play(self, events):
        marking = self.net_made.first_marking
        for event in events:
            if event >= self.seen.k or not self.net_made.may_happen(event, marking):
                return [MAY_NOT_HAPPEN]
            marking = self.net_made.marking_behind(event, marking)
        return [len(events)] + marking

    def same(self):
        still_open = open_questions(self.seen, self.regions_seen)
        come_to = markings_come_to(self.net_made, self.seen.n + 1)
        return [1 if len(still_open) == 0 else 0, len(come_to)]


def counted(numbers):
    return [len(numbers)] + numbers


def regions_counted(regions):
    answer = [len(regions)]
    for region in regions:
        answer.extend(counted(region.states))
    return answer


def is_rising(states):
    return all([states[place] < states[place + 1] for place in range(len(states) - 1)])


def answer_of_one(line, reader):
    call = reader.number()
    if call == BEGIN:
        n = reader.number()
        k = reader.number()
        return line.begin(n, k, reader.row())
    if call == CROSSES:
        return line.crosses(reader.row())
    if call == PLAY:
        return line.play(reader.row())
    return answer_without_numbers(line, call)


def answer_without_numbers(line, call):
    if call == REGIONS:
        return line.regions()
    if call == OPEN_ONES:
        return line.open_ones()
    if call == PLACES:
        return line.places()
    if call == NET:
        return line.net()
    if call == SAME:
        return line.same()
    raise NoSuchCall(f"no call has the number {call}")


def answers(calls):
    line = Line()
    reader = Reader(calls)
    given = []
    while not reader.ended():
        answer = answer_of_one(line, reader)
        given.append(len(answer))
        given.extend(answer)
    return given
