import unittest
from itertools import combinations, product

from helper import (OPEN_ONES, PLACES, REGIONS, SAME, all_tellings, ask, ask_of, begin, expected_told, is_as_said,
                    known_tellings, play, rows_told, scattered_tellings, tellings_of_nets)


def is_open(telling):
    told = ask(begin(*telling), OPEN_ONES, SAME)
    if (told[1][0] == 0) != (told[2][0] == 1):
        raise AssertionError(f"open_ones and same don't agree: {telling}")
    return told[2][0] == 0


def state_led_to(arcs, events):
    lead = {(s, e): t for s, e, t in arcs}
    state = 0
    for event in events:
        if (state, event) not in lead:
            return None
        state = lead[(state, event)]
    return state


def lists_to_each_state(n, arcs):
    found = {0: []}
    while len(found) < n:
        for s, e, t in arcs:
            if s in found and t not in found:
                found[t] = found[s] + [e]
    return [found[state] for state in range(n)]


def lists_to_play(n, k, arcs):
    """All lists up to some length; and of each state one that leads there, with any event behind it."""
    longest = max(size for size in range(1, 7) if k ** size < 130)
    rows = [list(events) for size in range(longest + 1) for events in product(range(k), repeat=size)]
    for events in lists_to_each_state(n, arcs):
        rows.extend(events + [event] for event in range(k))
    return rows


class NoQuestionOpen(unittest.TestCase):
    @classmethod
    def setUpClass(cls):
        several = list(known_tellings()) + list(tellings_of_nets(60, 5))
        cls.tellings = [telling for telling in several if not is_open(telling)]

    def test_such_tellings_are_small_and_large(self):
        sizes = [telling[0] for telling in self.tellings]
        self.assertEqual(set(sizes), set(range(1, 10)))
        self.assertGreater(len(sizes), 70)

    def test_events_happen_just_if_arcs_lead_on_so(self):
        for n, k, arcs in self.tellings:
            places = rows_told(ask(begin(n, k, arcs), PLACES)[1])
            rows = lists_to_play(n, k, arcs)
            for events, told in zip(rows, ask_of((n, k, arcs), [play(*events) for events in rows])):
                state = state_led_to(arcs, events)
                marked = [int(state in place) for place in places]
                wanted = [-6] if state is None else [len(events)] + marked
                self.assertEqual(told, wanted, (n, k, arcs, events))

    def test_different_states_are_marked_differently(self):
        for n, k, arcs in self.tellings:
            told = ask(begin(n, k, arcs), *[play(*events) for events in lists_to_each_state(n, arcs)])[1:]
            self.assertEqual(len({tuple(answer[1:]) for answer in told}), n, (n, k, arcs))


# For point 2 a place is whether it's marked at the beginning, and of each event 0 if it leaves the place alone, 1 if
# it fills it, 2 if it empties it: any place that there may be, whether some region stands behind it or not.

def any_places(k):
    return list(product((0, 1), product((0, 1, 2), repeat=k)))


def may_happen(places, marking, event):
    return all(place[1][event] == 0 or mark == place[1][event] - 1 for place, mark in zip(places, marking))


def marking_behind(places, marking, event):
    return tuple({0: mark, 1: 1, 2: 0}[place[1][event]] for place, mark in zip(places, marking))


def markings_by_state(n, arcs, places):
    """None where the places keep an arc from happening, or where a state would be marked in two ways."""
    markings = {0: tuple(place[0] for place in places)}
    waiting = [0]
    while waiting:
        state = waiting.pop()
        for s, e, t in arcs:
            if s != state:
                continue
            if not may_happen(places, markings[s], e):
                return None
            behind = marking_behind(places, markings[s], e)
            if t not in markings:
                markings[t] = behind
                waiting.append(t)
            if markings[t] != behind:
                return None
    return markings


def do_just_what_is_seen(n, k, arcs, places):
    markings = markings_by_state(n, arcs, places)
    if markings is None or len(set(markings.values())) < n:
        return False
    starts = {(s, e) for s, e, t in arcs}
    return not any(may_happen(places, markings[s], e) for s, e in product(range(n), range(k)) if (s, e) not in starts)


def some_do(n, k, arcs, places, most):
    choices = (choice for size in range(most + 1) for choice in combinations(places, size))
    return any(do_just_what_is_seen(n, k, arcs, choice) for choice in choices)


def fitting_places(n, k, arcs):
    """Those that alone keep no arc from happening: no others are in a net that does just what's seen."""
    return [place for place in any_places(k) if markings_by_state(n, arcs, [place]) is not None]


class SomePlacesDoJustWhatIsSeen(unittest.TestCase):
    def tellings(self, sizes):
        return [(n, k, arcs) for n, k in sizes for arcs in all_tellings(n, k) if is_as_said(n, k, arcs)]

    def test_any_choice_of_places_for_one_event(self):
        for telling in self.tellings([(1, 1), (2, 1), (3, 1), (4, 1)]):
            self.assertEqual(some_do(*telling, any_places(1), 6), not is_open(telling), telling)

    def test_any_three_places_for_two_events(self):
        # Of two states and two events there are three questions at the most, and a place for each is enough.
        for telling in self.tellings([(1, 2), (2, 2)]):
            self.assertEqual(some_do(*telling, any_places(2), 3), not is_open(telling), telling)

    def test_any_choice_of_those_that_fit(self):
        for telling in self.tellings([(2, 2), (2, 3), (3, 2)]):
            places = fitting_places(*telling)
            self.assertLess(len(places), 12)
            self.assertEqual(some_do(*telling, places, len(places)), not is_open(telling), telling)

    def test_all_that_fit_at_once(self):
        # Places only ever keep events from happening: where some do, all that fit do.
        for telling in list(scattered_tellings(50, 21)) + list(tellings_of_nets(20, 22)):
            self.assertEqual(do_just_what_is_seen(*telling, fitting_places(*telling)), not is_open(telling), telling)


    def test_what_a_net_does_has_no_question_open(self):
        for n, k, arcs in tellings_of_nets(150, 9):
            self.assertEqual(ask(begin(n, k, arcs), OPEN_ONES, SAME)[1:], [[0], [1, n]], (n, k, arcs))


class WhatPlacesTellApart(unittest.TestCase):
    def test_each_tells_something_apart_that_no_other_does(self):
        for n, k, arcs in known_tellings():
            told = [expected_told(n, k, arcs, place) for place in rows_told(ask(begin(n, k, arcs), PLACES)[1])]
            for number, own in enumerate(told):
                others = set().union(*told[:number], *told[number + 1:])
                self.assertGreater(len(own - others), 0, (n, k, arcs))

    def test_together_they_tell_apart_all_that_regions_do(self):
        for n, k, arcs in known_tellings():
            answers = ask(begin(n, k, arcs), PLACES, REGIONS)[1:]
            of_places, of_regions = [
                set().union(*[expected_told(n, k, arcs, states) for states in rows_told(answer)]) for answer in answers]
            self.assertEqual(of_places, of_regions, (n, k, arcs))


if __name__ == "__main__":
    unittest.main()
