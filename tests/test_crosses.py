import unittest
from itertools import combinations

from helper import (HIGHEST, REGIONS, ask, begin, chain, crosses, cube, everywhere, expected_crosses, known_tellings,
                    rows_told, two_rings)

# Events of 4 states: 0 leads on, 1 leads back, 2 stays, 3 and 4 each now so, now so.
MIXED = begin(4, 5, [(0, 0, 1), (2, 0, 3), (1, 1, 0), (3, 1, 2), (0, 2, 0), (1, 2, 1), (1, 3, 2), (2, 3, 1),
                     (0, 4, 2), (1, 4, 0)])


class Crosses(unittest.TestCase):
    def test_no_states(self):
        self.assertEqual(ask(MIXED, crosses()), [[10], [1, 0, 0, 0, 0, 0]])
        self.assertEqual(ask(begin(9, 6, everywhere(9, 6)), crosses()), [[54], [1, 0, 0, 0, 0, 0, 0]])

    def test_all_states(self):
        self.assertEqual(ask(MIXED, crosses(0, 1, 2, 3)), [[10], [1, 0, 0, 0, 0, 0]])
        self.assertEqual(ask(begin(9, 6, everywhere(9, 6)), crosses(*range(9)))[1], [1, 0, 0, 0, 0, 0, 0])

    def test_all_the_ways(self):
        self.assertEqual(ask(MIXED, crosses(1, 3))[1], [0, 1, 2, 0, -1, -1])
        self.assertEqual(ask(MIXED, crosses(0, 2))[1], [0, 2, 1, 0, -1, -1])
        self.assertEqual(ask(MIXED, crosses(0, 1))[1], [0, 0, 0, 0, -1, -1])
        self.assertEqual(ask(MIXED, crosses(1, 2))[1], [0, -1, -1, 0, 0, -1])

    def test_way_0_in_and_outside(self):
        told = ask(begin(4, 2, [(0, 0, 1), (2, 0, 3), (1, 1, 2)]), crosses(0, 1), crosses(2, 3), crosses(0))
        self.assertEqual(told[1:], [[1, 0, 2], [1, 0, 1], [0, -1, 0]])

    def test_entering_and_staying_is_no_way(self):
        outside = begin(3, 1, [(0, 0, 1), (1, 0, 2)])
        self.assertEqual(ask(outside, crosses(2))[1], [0, -1])
        inside = begin(3, 1, [(0, 0, 1), (1, 0, 2), (2, 0, 2)])
        self.assertEqual(ask(inside, crosses(1, 2))[1], [0, -1])

    def test_leaving_and_staying_is_no_way(self):
        self.assertEqual(ask(begin(3, 1, [(0, 0, 1), (1, 0, 2)]), crosses(0), crosses(0, 1))[1:], [[0, -1], [0, -1]])

    def test_entering_and_leaving_is_no_way(self):
        self.assertEqual(ask(begin(2, 1, [(0, 0, 1), (1, 0, 0)]), crosses(0), crosses(1))[1:], [[0, -1], [0, -1]])

    def test_one_event_without_a_way_is_enough_for_0(self):
        told = ask(begin(3, 2, [(0, 0, 1), (1, 1, 2), (2, 1, 0)]), crosses(1), crosses(0, 1))
        self.assertEqual(told[1:], [[0, 1, -1], [0, 0, -1]])

    def test_the_cube_and_the_rings(self):
        self.assertEqual(ask(begin(8, 6, cube()), crosses(1, 3, 5, 7))[1], [1, 1, 0, 0, 2, 0, 0])
        self.assertEqual(ask(begin(9, 6, two_rings()), crosses(0, 1, 2))[1], [1, 2, 0, 1, 0, 0, 0])
        self.assertEqual(ask(begin(9, 6, two_rings()), crosses(0, 8))[1], [0] + [-1] * 6)

    def test_any_states_against_a_second_reckoning(self):
        for n, k, arcs in known_tellings():
            for size in range(n + 1):
                rows = list(combinations(range(n), size))[:59]
                told = ask(begin(n, k, arcs), *[crosses(*states) for states in rows])
                self.assertEqual(told[1:], [expected_crosses(k, arcs, states) for states in rows], (n, k, arcs))

    def test_1_just_for_regions_beside_none_and_all(self):
        rows = [states for size in range(1, 5) for states in combinations(range(5), size)]
        arcs = chain(5, [0, 1, 0, 2])
        told = ask(begin(5, 3, arcs), REGIONS, *[crosses(*states) for states in rows])
        crossed = [list(states) for states, answer in zip(rows, told[2:]) if answer[0] == 1]
        self.assertEqual(rows_told(told[1]), crossed)


class CrossesRefused(unittest.TestCase):
    def test_not_rising(self):
        for states in ((1, 0), (0, 2, 1), (3, 2, 1, 0), (1, 2, 0)):
            self.assertEqual(ask(MIXED, crosses(*states)), [[10], [-3]], states)

    def test_the_same_twice(self):
        for states in ((0, 0), (3, 3), (0, 1, 1), (0, 0, 1)):
            self.assertEqual(ask(MIXED, crosses(*states)), [[10], [-3]], states)

    def test_a_state_that_there_is_not(self):
        for states in ((4,), (0, 4), (0, 1, 2, 3, 4), (HIGHEST,), (0, HIGHEST), (4, 0), (HIGHEST, HIGHEST)):
            self.assertEqual(ask(MIXED, crosses(*states)), [[10], [-3]], states)
        self.assertEqual(ask(crosses(1), crosses(0, 1)), [[-3], [-3]])

    def test_the_longest_lists(self):
        for states in (range(1024), [0] * 1024, [HIGHEST] * 1024, range(HIGHEST - 1023, HIGHEST + 1)):
            self.assertEqual(ask(begin(9, 6, two_rings()), crosses(*states), crosses(0))[1:],
                             [[-3], [0, -1, 0, -1, -1, 0, -1]])


if __name__ == "__main__":
    unittest.main()
