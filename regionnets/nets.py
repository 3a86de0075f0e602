"""The calls about one telling of states and arcs, and their answers.

answers(calls) takes a list of calls and gives back, for each, how many numbers are answered, then these.
"""

from regionnets.questions import open_questions
from regionnets.reader import Reader
from regionnets.regions import NO_WAY, regions_in_order, ways_across
from regionnets.seen import ILL_FORMED, NOT_REFUSED, Seen, arcs_told, refusal_of, seen_before_any_begin

BEGIN = 1
REGIONS = 2
CROSSES = 3
OPEN_ONES = 4


class NoSuchCall(ValueError):
    pass


class Line:
    def __init__(self):
        self.seen = seen_before_any_begin()

    def begin(self, n, k, numbers):
        refusal = refusal_of(n, k, numbers)
        if refusal != NOT_REFUSED:
            return [refusal]
        arcs = arcs_told(numbers)
        self.seen = Seen(n, k, arcs)
        return [len(arcs)]

    def regions(self):
        found = regions_in_order(self.seen)
        answer = [len(found)]
        for region in found:
            answer.append(len(region.states))
            answer.extend(region.states)
        return answer

    def crosses(self, states):
        if not (is_rising(states) and all([state < self.seen.n for state in states])):
            return [ILL_FORMED]
        ways = ways_across(self.seen, states)
        return [0 if NO_WAY in ways else 1] + ways

    def open_ones(self):
        found = open_questions(self.seen, regions_in_order(self.seen))
        answer = [len(found)]
        for question in found:
            answer.extend(question)
        return answer


def is_rising(states):
    return all([states[place] < states[place + 1] for place in range(len(states) - 1)])


def answer_of_one(line, reader):
    call = reader.number()
    if call == BEGIN:
        n = reader.number()
        k = reader.number()
        return line.begin(n, k, reader.row())
    if call == REGIONS:
        return line.regions()
    if call == CROSSES:
        return line.crosses(reader.row())
    if call == OPEN_ONES:
        return line.open_ones()
    raise NoSuchCall(f"no call has the number {call}")


def answers(calls):
    line = Line()
    reader = Reader(calls)
    given = []
    while not reader.ended():
        answer = answer_of_one(line, reader)
        given.append(len(answer))
        given.extend(answer)
    return given
