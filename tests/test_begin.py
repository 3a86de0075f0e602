import unittest

from helper import (HIGHEST, NET, OPEN_ONES, PLACES, REGIONS, SAME, SMALL_SIZES, all_tellings, ask, begin, chain,
                    crosses, everywhere, is_as_said, play, two_rings)

LOOKS = [REGIONS, OPEN_ONES, crosses(), crosses(0), crosses(1), crosses(8), PLACES, NET, play(), play(0), play(5), SAME]


def refused(call):
    """What begin answers, once it is clear that it left all as it was."""
    answered = []
    for before in (begin(1, 1, [(0, 0, 0)]), begin(9, 6, two_rings())):
        told = ask(before, *LOOKS, call, *LOOKS)
        if told[1:1 + len(LOOKS)] != told[2 + len(LOOKS):]:
            raise AssertionError(f"{call} is refused, but not all is as it was")
        answered.append(told[1 + len(LOOKS)])
    new = ask(call, *LOOKS)
    if new[1:] != ask(*LOOKS) or answered != [new[0], new[0]]:
        raise AssertionError(f"{call} is not refused alike, or not all is as it was before any begin")
    return new[0]


class BeforeAnyBegin(unittest.TestCase):
    def test_one_state_one_event_and_an_arc_to_itself(self):
        told = ask(REGIONS, OPEN_ONES, crosses(), crosses(0), crosses(1))
        self.assertEqual(told, [[0], [0], [1, 0], [1, 0], [-3]])

    def test_a_net_of_no_places(self):
        told = ask(PLACES, NET, play(), play(0), play(0, 0), play(1), SAME)
        self.assertEqual(told, [[0], [0, 0, 0], [0], [1], [2], [-6], [1, 1]])

    def test_it_is_what_such_a_begin_tells(self):
        self.assertEqual(ask(begin(1, 1, [(0, 0, 0)]), *LOOKS)[1:], ask(*LOOKS))


class Begin(unittest.TestCase):
    def test_answers_how_many_arcs(self):
        self.assertEqual(ask(begin(1, 1, [(0, 0, 0)])), [[1]])
        self.assertEqual(ask(begin(2, 2, [(0, 0, 1), (1, 1, 0)])), [[2]])
        self.assertEqual(ask(begin(9, 1, chain(9, [0] * 8))), [[8]])
        self.assertEqual(ask(begin(1, 6, [(0, e, 0) for e in range(6)])), [[6]])

    def test_the_largest_telling(self):
        self.assertEqual(ask(begin(9, 6, everywhere(9, 6))), [[54]])

    def test_arcs_in_any_order(self):
        looks = [REGIONS, OPEN_ONES, crosses(0, 4)]
        there = ask(begin(9, 6, two_rings()), *looks)
        self.assertEqual(ask(begin(9, 6, two_rings()[::-1]), *looks), there)

    def test_a_state_come_to_by_arcs_told_later(self):
        self.assertEqual(ask(begin(4, 1, [(2, 0, 3), (1, 0, 2), (0, 0, 1)])), [[3]])

    def test_comes_again(self):
        told = ask(begin(3, 2, [(0, 0, 1), (1, 1, 2)]), REGIONS, begin(2, 1, [(0, 0, 1)]), REGIONS, crosses(2),
                   begin(1, 1, [(0, 0, 0)]), REGIONS)
        self.assertEqual(told, [[2], [6, 1, 0, 1, 1, 1, 2, 2, 0, 1, 2, 0, 2, 2, 1, 2],
                                [1], [2, 1, 0, 1, 1], [-3], [1], [0]])

    def test_every_small_telling(self):
        for n, k in SMALL_SIZES:
            for arcs in all_tellings(n, k):
                wanted = len(arcs) if is_as_said(n, k, arcs) else -4
                self.assertEqual(ask(begin(n, k, arcs)), [[wanted]], (n, k, arcs))


class BeginRefused(unittest.TestCase):
    def test_how_many_states_and_events(self):
        loops = [(0, e, 0) for e in range(7)]
        for n in (0, 10, 11, HIGHEST):
            self.assertEqual(refused(begin(n, 1, chain(min(n, 12), [0] * 12))), [-1], n)
        for k in (0, 7, 8, HIGHEST):
            self.assertEqual(refused(begin(1, k, loops[:k])), [-1], k)
        self.assertEqual(refused(begin(0, 0, [])), [-1])
        self.assertEqual(refused(begin(HIGHEST, HIGHEST, [])), [-1])

    def test_numbers_left_over(self):
        for arcs in ([0], [0, 0], [(0, 0, 0), 0], [(0, 0, 0), 0, 0]):
            self.assertEqual(refused(begin(1, 1, arcs)), [-3], arcs)

    def test_a_state_that_there_is_not(self):
        for there_not in (2, 9, HIGHEST):
            self.assertEqual(refused(begin(2, 1, [(0, 0, 1), (there_not, 0, 0)])), [-1])
            self.assertEqual(refused(begin(2, 1, [(0, 0, 1), (1, 0, there_not)])), [-1])

    def test_an_event_that_there_is_not(self):
        for there_not in (1, 6, HIGHEST):
            self.assertEqual(refused(begin(2, 1, [(0, 0, 1), (1, there_not, 0)])), [-1])

    def test_two_arcs_from_one_state_by_one_event(self):
        self.assertEqual(refused(begin(2, 1, [(0, 0, 0), (0, 0, 1)])), [-4])
        self.assertEqual(refused(begin(3, 1, [(0, 0, 1), (1, 0, 2), (0, 0, 2)])), [-4])

    def test_the_same_arc_twice(self):
        self.assertEqual(refused(begin(1, 1, [(0, 0, 0), (0, 0, 0)])), [-4])
        self.assertEqual(refused(begin(2, 2, [(0, 0, 1), (1, 1, 0), (0, 0, 1)])), [-4])

    def test_an_event_with_no_arc(self):
        self.assertEqual(refused(begin(2, 2, [(0, 0, 1)])), [-4])
        self.assertEqual(refused(begin(2, 2, [(0, 1, 1)])), [-4])
        self.assertEqual(refused(begin(1, 6, [(0, e, 0) for e in range(6) if e != 3])), [-4])

    def test_a_state_that_is_not_come_to(self):
        self.assertEqual(refused(begin(2, 1, [(0, 0, 0)])), [-4])
        self.assertEqual(refused(begin(2, 1, [(1, 0, 0)])), [-4])
        self.assertEqual(refused(begin(2, 1, [(0, 0, 0), (1, 0, 1)])), [-4])
        self.assertEqual(refused(begin(4, 1, [(0, 0, 1), (2, 0, 3), (3, 0, 2)])), [-4])

    def test_no_arcs(self):
        self.assertEqual(refused(begin(1, 1, [])), [-4])
        self.assertEqual(refused(begin(9, 6, [])), [-4])

    def test_states_and_events_go_ahead_of_left_over(self):
        self.assertEqual(refused(begin(0, 1, [0])), [-1])
        self.assertEqual(refused(begin(1, 7, [0])), [-1])

    def test_left_over_goes_ahead_of_what_there_is_not(self):
        self.assertEqual(refused(begin(1, 1, [5])), [-3])
        self.assertEqual(refused(begin(1, 1, [(5, 0, 0), 0])), [-3])
        self.assertEqual(refused(begin(1, 1, [(0, 0, 0), 0, HIGHEST])), [-3])

    def test_left_over_goes_ahead_of_what_is_not_as_said(self):
        self.assertEqual(refused(begin(1, 1, [(0, 0, 0), (0, 0, 0), 0])), [-3])
        self.assertEqual(refused(begin(2, 2, [0])), [-3])

    def test_what_there_is_not_goes_ahead_of_what_is_not_as_said(self):
        self.assertEqual(refused(begin(2, 1, [(0, 0, 1), (0, 0, 1), (0, 0, 2)])), [-1])
        self.assertEqual(refused(begin(3, 2, [(0, 0, 0), (0, 2, 0)])), [-1])
        self.assertEqual(refused(begin(2, 1, [(2, 0, 1)])), [-1])

    def test_the_longest_lists(self):
        self.assertEqual(refused(begin(1, 1, [0] * 1024)), [-3])
        self.assertEqual(refused(begin(9, 6, [HIGHEST] * 1024)), [-3])
        self.assertEqual(refused(begin(0, 1, [0] * 1024)), [-1])
        self.assertEqual(refused(begin(1, 1, [0] * 1023)), [-4])
        self.assertEqual(refused(begin(1, 1, [0] * 1022 + [1])), [-1])
        self.assertEqual(refused(begin(9, 6, (everywhere(9, 6) * 7)[:341])), [-4])


if __name__ == "__main__":
    unittest.main()
