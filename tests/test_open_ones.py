import unittest

from helper import (OPEN_ONES, ask, begin, chain, cube, everywhere, expected_open, known_tellings, two_rings)


def open_ones(n, k, arcs):
    return ask(begin(n, k, arcs), OPEN_ONES)[1]


class OpenOnes(unittest.TestCase):
    def test_none_where_nothing_is_asked(self):
        self.assertEqual(ask(OPEN_ONES), [[0]])
        self.assertEqual(open_ones(1, 6, [(0, e, 0) for e in range(6)]), [0])

    def test_none_where_all_is_told_apart(self):
        self.assertEqual(open_ones(2, 1, [(0, 0, 1)]), [0])
        self.assertEqual(open_ones(4, 2, [(0, 0, 1), (0, 1, 2), (1, 1, 3), (2, 0, 3)]), [0])
        self.assertEqual(open_ones(7, 6, chain(7, range(6))), [0])
        self.assertEqual(open_ones(8, 6, cube()), [0])
        self.assertEqual(open_ones(9, 6, two_rings()), [0])

    def test_two_states_alone(self):
        self.assertEqual(open_ones(2, 1, [(0, 0, 1), (1, 0, 0)]), [1, 0, 0, 1])
        ring = [(0, 0, 1), (1, 0, 2), (2, 0, 3), (3, 0, 0)]
        self.assertEqual(open_ones(4, 1, ring), [6, 0, 0, 1, 0, 0, 2, 0, 0, 3, 0, 1, 2, 0, 1, 3, 0, 2, 3])

    def test_a_state_and_an_event_alone(self):
        self.assertEqual(open_ones(2, 2, [(0, 0, 1), (0, 1, 0)]), [1, 1, 1, 1])
        self.assertEqual(open_ones(2, 2, [(0, 0, 1), (1, 1, 1)]), [1, 1, 0, 1])

    def test_both(self):
        # {0, 1} and {2} are the regions: event 0 crosses neither, event 1 leaves the one and enters the other.
        self.assertEqual(open_ones(3, 2, [(0, 0, 1), (1, 1, 2), (0, 1, 2)]), [3, 0, 0, 1, 1, 1, 0, 1, 2, 0])

    def test_in_order_by_states_then_by_state_and_event(self):
        self.assertEqual(open_ones(3, 1, [(0, 0, 1), (1, 0, 2)]), [4, 0, 0, 1, 0, 0, 2, 0, 1, 2, 1, 2, 0])
        told = open_ones(3, 2, [(0, 0, 1), (1, 0, 2), (2, 0, 0), (1, 1, 1)])
        self.assertEqual(told, [5, 0, 0, 1, 0, 0, 2, 0, 1, 2, 1, 0, 1, 1, 2, 1])

    def test_by_the_state_ahead_of_the_event(self):
        arcs = [(0, 0, 1), (1, 0, 0), (0, 1, 0), (1, 2, 1)]
        self.assertEqual(open_ones(2, 3, arcs), [3, 0, 0, 1, 1, 0, 2, 1, 1, 1])
        arcs = [(0, 0, 0), (0, 1, 1), (1, 1, 2), (2, 1, 0), (0, 2, 0)]
        self.assertEqual(open_ones(3, 3, arcs), [7, 0, 0, 1, 0, 0, 2, 0, 1, 2, 1, 1, 0, 1, 1, 2, 1, 2, 0, 1, 2, 2])

    def test_an_event_that_has_an_arc_from_a_state_is_no_question(self):
        self.assertEqual(open_ones(9, 6, everywhere(9, 6))[0], 36)

    def test_an_event_may_not_come_behind_itself_where_it_leaves_or_enters(self):
        self.assertEqual(open_ones(2, 2, [(0, 0, 1), (1, 1, 0)]), [0])

    def test_against_a_second_reckoning(self):
        kinds = {0: 0, 1: 0}
        for n, k, arcs in known_tellings():
            told = open_ones(n, k, arcs)
            self.assertEqual(told, expected_open(n, k, arcs), (n, k, arcs))
            for kind in told[1::3]:
                kinds[kind] += 1
        self.assertGreater(min(kinds.values()), 100)


if __name__ == "__main__":
    unittest.main()
