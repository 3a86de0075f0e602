import unittest
from itertools import combinations

from helper import (REGIONS, ask, begin, chain, crosses, cube, everywhere, expected_regions, flat_rows, known_tellings,
                    rows_told, two_rings)


def regions(n, k, arcs):
    return ask(begin(n, k, arcs), REGIONS)[1]


class Regions(unittest.TestCase):
    def test_one_state_alone_has_none(self):
        self.assertEqual(ask(REGIONS), [[0]])
        self.assertEqual(regions(1, 6, [(0, e, 0) for e in range(6)]), [0])

    def test_more_states_may_have_none(self):
        self.assertEqual(regions(2, 1, [(0, 0, 1), (1, 0, 0)]), [0])
        self.assertEqual(regions(9, 6, everywhere(9, 6)), [0])

    def test_two_states(self):
        self.assertEqual(regions(2, 1, [(0, 0, 1)]), [2, 1, 0, 1, 1])
        self.assertEqual(regions(2, 2, [(0, 0, 1), (1, 1, 0)]), [2, 1, 0, 1, 1])

    def test_an_arc_to_itself_keeps_an_event_from_entering(self):
        self.assertEqual(regions(2, 1, [(0, 0, 1), (1, 0, 1)]), [0])
        self.assertEqual(regions(2, 2, [(0, 0, 1), (1, 1, 1)]), [2, 1, 0, 1, 1])

    def test_two_arcs_of_one_event_cross_alike(self):
        square = [(0, 0, 1), (0, 1, 2), (1, 1, 3), (2, 0, 3)]
        self.assertEqual(regions(4, 2, square), [4, 2, 0, 1, 2, 0, 2, 2, 1, 3, 2, 2, 3])

    def test_a_way_not_kept_to_by_the_last_arc_alone(self):
        arcs = [(0, 0, 2), (0, 1, 1), (1, 0, 1)]
        self.assertEqual(regions(3, 2, arcs), flat_rows([[1], [0, 2]]))

    def test_any_states_where_each_event_has_one_arc(self):
        wanted = []
        for size in range(1, 7):
            wanted.extend([list(states) for states in combinations(range(7), size)])
        told = regions(7, 6, chain(7, range(6)))
        self.assertEqual(told[0], 126)
        self.assertEqual(told, flat_rows(wanted))

    def test_order_goes_by_the_first_state_that_differs_not_the_last(self):
        told = rows_told(regions(4, 3, chain(4, range(3))))
        self.assertLess(told.index([0, 3]), told.index([1, 2]))
        self.assertLess(told.index([3]), told.index([0, 1]))
        self.assertLess(told.index([0, 1, 3]), told.index([0, 2, 3]))

    def test_the_cube(self):
        wanted = [[0, 1, 2, 3], [0, 1, 4, 5], [0, 2, 4, 6], [1, 3, 5, 7], [2, 3, 6, 7], [4, 5, 6, 7]]
        self.assertEqual(regions(8, 6, cube()), flat_rows(wanted))

    def test_nine_states(self):
        wanted = [[0, 1, 2], [0, 3, 6], [1, 4, 7], [2, 5, 8], [3, 4, 5], [6, 7, 8],
                  [0, 1, 2, 3, 4, 5], [0, 1, 2, 6, 7, 8], [0, 1, 3, 4, 6, 7],
                  [0, 2, 3, 5, 6, 8], [1, 2, 4, 5, 7, 8], [3, 4, 5, 6, 7, 8]]
        self.assertEqual(regions(9, 6, two_rings()), flat_rows(wanted))

    def test_nine_states_with_the_largest_and_smallest_regions(self):
        arcs = [(0, 0, 1), (1, 1, 2), (2, 2, 3), (3, 3, 4), (4, 4, 5), (5, 5, 6), (6, 0, 7), (7, 1, 8)]
        told = rows_told(regions(9, 6, arcs))
        self.assertEqual(told, expected_regions(9, 6, arcs))
        self.assertEqual(told[0], [3])
        self.assertEqual(told[-1], [0, 1, 2, 4, 5, 6, 7, 8])

    def test_against_a_second_reckoning(self):
        for n, k, arcs in known_tellings():
            self.assertEqual(regions(n, k, arcs), flat_rows(expected_regions(n, k, arcs)), (n, k, arcs))


class WhatIsNotInARegion(unittest.TestCase):
    def test_is_one(self):
        for n, k, arcs in known_tellings():
            told = rows_told(regions(n, k, arcs))
            for states in told:
                rest = [state for state in range(n) if state not in states]
                self.assertIn(rest, told, (n, k, arcs))

    def test_is_entered_by_what_leaves_the_region(self):
        turned = {0: 0, 1: 2, 2: 1}
        for n, k, arcs in ((7, 6, chain(7, range(6))), (8, 6, cube()), (9, 6, two_rings())):
            for states in rows_told(regions(n, k, arcs)):
                rest = [state for state in range(n) if state not in states]
                told = ask(begin(n, k, arcs), crosses(*states), crosses(*rest))
                self.assertEqual(told[2], [1] + [turned[way] for way in told[1][1:]])


if __name__ == "__main__":
    unittest.main()
