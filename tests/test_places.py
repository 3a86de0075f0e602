import unittest

from helper import (NET, PLACES, REGIONS, ask, begin, chain, cube, everywhere, expected_places, far_more_than_seen,
                    flat_rows, known_tellings, more_than_seen, rows_told, two_rings)


def places(n, k, arcs):
    return ask(begin(n, k, arcs), PLACES)[1]


class Places(unittest.TestCase):
    def test_none_before_any_begin(self):
        self.assertEqual(ask(PLACES), [[0]])

    def test_none_where_there_are_no_regions(self):
        self.assertEqual(places(1, 6, [(0, e, 0) for e in range(6)]), [0])
        self.assertEqual(places(2, 1, [(0, 0, 1), (1, 0, 0)]), [0])
        self.assertEqual(places(9, 6, everywhere(9, 6)), [0])

    def test_of_a_region_and_what_is_not_in_it_the_last_one_goes(self):
        self.assertEqual(places(2, 1, [(0, 0, 1)]), [1, 1, 0])
        self.assertEqual(places(2, 2, [(0, 0, 1), (1, 1, 0)]), [1, 1, 0])
        self.assertEqual(places(3, 2, [(0, 0, 2), (0, 1, 1), (1, 0, 1)]), [1, 1, 1])

    def test_of_as_many_states_the_last_ones_go(self):
        square = [(0, 0, 1), (0, 1, 2), (1, 1, 3), (2, 0, 3)]
        self.assertEqual(places(4, 2, square), flat_rows([[0, 1], [0, 2]]))
        self.assertEqual(places(8, 6, cube()), flat_rows([[0, 1, 2, 3], [0, 1, 4, 5], [0, 2, 4, 6]]))

    def test_a_region_goes_if_several_together_tell_all_apart_that_it_does(self):
        # {2} tells apart 0 and 2, as {0} does, 1 and 2, and state 2 and event 1, as {1} does.
        self.assertEqual(places(3, 2, [(0, 0, 1), (1, 1, 2)]), [2, 1, 0, 1, 1])

    def test_a_region_stays_for_two_states_alone(self):
        # All that {1} tells apart {0} does too, but for 1 and 2.
        self.assertEqual(places(3, 2, [(0, 0, 1), (0, 1, 2)]), [2, 1, 0, 1, 1])

    def test_a_region_stays_for_a_state_and_an_event_alone(self):
        # Two of them tell all states apart, but only {0} tells apart state 2 and event 0, and so on around.
        self.assertEqual(places(3, 3, [(0, 0, 1), (1, 1, 2), (2, 2, 0)]), [3, 1, 0, 1, 1, 1, 2])

    def test_a_hundred_and_twenty_six_regions(self):
        told = ask(begin(7, 6, chain(7, range(6))), REGIONS, PLACES)
        self.assertEqual(told[1][0], 126)
        self.assertEqual(told[2], flat_rows([[0], [1], [2], [3], [4], [5]]))

    def test_nine_states_and_six_events(self):
        wanted = [[0, 1, 2], [0, 3, 6], [1, 4, 7], [2, 5, 8], [3, 4, 5], [6, 7, 8]]
        self.assertEqual(places(9, 6, two_rings()), flat_rows(wanted))

    def test_where_questions_are_open(self):
        self.assertEqual(places(3, 2, [(0, 0, 1), (1, 1, 2), (0, 1, 2)]), [1, 1, 2])
        self.assertEqual(places(6, 3, more_than_seen()), flat_rows(expected_places(6, 3, more_than_seen())))
        told = rows_told(places(9, 6, far_more_than_seen()))
        self.assertEqual(told, expected_places(9, 6, far_more_than_seen()))

    def test_they_are_regions_in_their_order_and_half_of_them_at_the_most(self):
        for n, k, arcs in known_tellings():
            told = ask(begin(n, k, arcs), REGIONS, PLACES)
            regions, kept = rows_told(told[1]), rows_told(told[2])
            self.assertEqual([region for region in regions if region in kept], kept, (n, k, arcs))
            self.assertLessEqual(2 * len(kept), len(regions), (n, k, arcs))

    def test_against_a_second_reckoning(self):
        for n, k, arcs in known_tellings():
            self.assertEqual(places(n, k, arcs), flat_rows(expected_places(n, k, arcs)), (n, k, arcs))

    def test_behind_a_second_begin_and_a_refused_one(self):
        told = ask(begin(2, 1, [(0, 0, 1)]), PLACES, begin(9, 6, two_rings()), PLACES, begin(2, 1, [0]), PLACES,
                   begin(1, 1, [(0, 0, 0)]), PLACES, begin(3, 2, [(0, 0, 1)]), PLACES, NET)
        self.assertEqual(told[1::2], [[1, 1, 0], places(9, 6, two_rings()), places(9, 6, two_rings()), [0], [0]])


if __name__ == "__main__":
    unittest.main()
