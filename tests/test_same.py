import unittest

from helper import (OPEN_ONES, SAME, Tokens, ask, begin, chain, cube, everywhere, expected_net, expected_same,
                    far_more_than_seen, known_tellings, more_than_seen, two_rings)


def same(n, k, arcs):
    return ask(begin(n, k, arcs), SAME)[1]


class Same(unittest.TestCase):
    def test_before_any_begin(self):
        self.assertEqual(ask(SAME), [[1, 1]])

    def test_no_question_is_open(self):
        self.assertEqual(same(1, 6, [(0, e, 0) for e in range(6)]), [1, 1])
        self.assertEqual(same(2, 1, [(0, 0, 1)]), [1, 2])
        self.assertEqual(same(2, 2, [(0, 0, 1), (1, 1, 0)]), [1, 2])
        self.assertEqual(same(4, 2, [(0, 0, 1), (0, 1, 2), (1, 1, 3), (2, 0, 3)]), [1, 4])
        self.assertEqual(same(7, 6, chain(7, range(6))), [1, 7])
        self.assertEqual(same(8, 6, cube()), [1, 8])
        self.assertEqual(same(9, 6, two_rings()), [1, 9])

    def test_some_two_states_are_not_told_apart(self):
        self.assertEqual(same(2, 1, [(0, 0, 1), (1, 0, 0)]), [0, 1])
        self.assertEqual(same(9, 6, everywhere(9, 6)), [0, 1])

    def test_some_state_and_event_are_not_told_apart(self):
        self.assertEqual(same(2, 2, [(0, 0, 1), (0, 1, 0)]), [0, 2])

    def test_fewer_markings_than_states(self):
        self.assertEqual(same(3, 2, [(0, 0, 1), (1, 1, 2), (0, 1, 2)]), [0, 2])
        self.assertEqual(same(3, 1, [(0, 0, 1), (1, 0, 2)]), [0, 1])

    def test_as_many_markings_as_states_with_a_question_open(self):
        # Event 0 isn't seen in state 2; where the net has it happen there, what's marked is as at state 3.
        self.assertEqual(same(4, 2, [(0, 0, 1), (0, 1, 2), (1, 1, 3)]), [0, 4])

    def test_more_markings_than_states(self):
        # Event 0 happens once, ahead of, between or behind events 2, 1, 2: twice four markings.
        self.assertEqual(same(6, 3, more_than_seen()), [0, 8])

    def test_n_and_one_events_at_the_most(self):
        telling = 9, 6, far_more_than_seen()
        tokens = Tokens(expected_net(*telling))
        self.assertEqual([len(tokens.come_to(most)) for most in (9, 10, 11, 40)], [15, 17, 18, 28])
        self.assertEqual(same(*telling), [0, 17])

    def test_1_just_where_open_ones_tells_none(self):
        for n, k, arcs in known_tellings():
            told = ask(begin(n, k, arcs), OPEN_ONES, SAME)
            self.assertEqual(told[2][0] == 1, told[1] == [0], (n, k, arcs))
            if told[1] == [0]:
                self.assertEqual(told[2], [1, n], (n, k, arcs))

    def test_against_a_second_reckoning(self):
        kinds = []
        for n, k, arcs in known_tellings():
            told = same(n, k, arcs)
            self.assertEqual(told, expected_same(n, k, arcs), (n, k, arcs))
            kinds.append((told[0], (told[1] > n) - (told[1] < n)))
        self.assertEqual(set(kinds), {(1, 0), (0, -1), (0, 0), (0, 1)})

    def test_behind_a_second_begin_and_a_refused_one(self):
        told = ask(begin(2, 1, [(0, 0, 1)]), SAME, begin(6, 3, more_than_seen()), SAME, begin(0, 1, []), SAME,
                   begin(2, 1, [(0, 0, 0)]), SAME, begin(1, 1, [(0, 0, 0)]), SAME)
        self.assertEqual(told[1::2], [[1, 2], [0, 8], [0, 8], [0, 8], [1, 1]])


if __name__ == "__main__":
    unittest.main()
