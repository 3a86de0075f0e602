import unittest
from itertools import product

from helper import (HIGHEST, NET, OPEN_ONES, PLACES, REGIONS, SAME, Tokens, ask, ask_of, begin, chain, crosses, cube,
                    everywhere, expected_net, far_more_than_seen, known_tellings, more_than_seen, play, two_rings)

# The one place is {0}: event 0 leaves it, event 1 enters it.
SWITCH = begin(2, 2, [(0, 0, 1), (1, 1, 0)])
# The places are {0} and {1}: event 0 leads from the one to the other, event 1 leaves the other.
LINE = begin(3, 2, [(0, 0, 1), (1, 1, 2)])
# The one place is {2}: event 0 leaves and enters none, event 1 enters it.
ONCE = begin(3, 2, [(0, 0, 1), (1, 1, 2), (0, 1, 2)])


class Play(unittest.TestCase):
    def test_before_any_begin(self):
        told = ask(play(), play(0), play(0, 0, 0), play(*[0] * 1024), play(1), play(0, 1), play(HIGHEST))
        self.assertEqual(told, [[0], [1], [3], [1024], [-6], [-6], [-6]])

    def test_no_events(self):
        self.assertEqual(ask(SWITCH, play()), [[2], [0, 1]])
        self.assertEqual(ask(LINE, play()), [[2], [0, 1, 0]])
        self.assertEqual(ask(ONCE, play()), [[3], [0, 0]])
        self.assertEqual(ask(begin(9, 6, two_rings()), play())[1], [0, 1, 1, 0, 0, 0, 0])
        self.assertEqual(ask(begin(9, 6, everywhere(9, 6)), play())[1], [0])

    def test_one_event(self):
        self.assertEqual(ask(SWITCH, play(0))[1], [1, 0])
        self.assertEqual(ask(LINE, play(0))[1], [1, 0, 1])
        self.assertEqual(ask(ONCE, play(0), play(1))[1:], [[1, 0], [1, 1]])

    def test_several_events(self):
        self.assertEqual(ask(SWITCH, play(0, 1), play(0, 1, 0))[1:], [[2, 1], [3, 0]])
        self.assertEqual(ask(LINE, play(0, 1))[1], [2, 0, 0])
        self.assertEqual(ask(begin(7, 6, chain(7, range(6))), play(*range(6)), play(0, 1, 2))[1:],
                         [[6, 0, 0, 0, 0, 0, 0], [3, 0, 0, 0, 1, 0, 0]])
        self.assertEqual(ask(begin(8, 6, cube()), play(2, 0, 1, 5), play(1, 4, 1))[1:], [[4, 1, 0, 0], [3, 1, 0, 1]])
        self.assertEqual(ask(begin(9, 6, two_rings()), play(0, 3, 4, 1, 5, 2))[1], [6, 1, 1, 0, 0, 0, 0])

    def test_a_list_of_1024_events(self):
        self.assertEqual(ask(SWITCH, play(*[0, 1] * 512), play(*[0, 1] * 511 + [0]))[1:], [[1024, 1], [1023, 0]])
        self.assertEqual(ask(begin(9, 6, two_rings()), play(*[0, 3, 1, 4, 2, 5] * 170 + [0, 3, 1, 4]))[1],
                         [1024, 0, 0, 0, 1, 0, 1])
        self.assertEqual(ask(begin(9, 6, everywhere(9, 6)), play(*[0, 5] * 512))[1], [1024])

    def test_more_than_what_is_seen_where_questions_are_open(self):
        self.assertEqual(ask(ONCE, play(0, 0, 0), play(*[0] * 1023 + [1]), play(1, 0, 0), play(1, 0, 1))[1:],
                         [[3, 0], [1024, 1], [3, 1], [-6]])
        telling = 6, 3, more_than_seen()
        tokens = Tokens(expected_net(*telling))
        for events in ([0], [0, 2, 1, 2], [2, 1, 2, 0], [2, 0, 1, 2], [0, 0], [2, 1, 2, 2]):
            told = ask(begin(*telling), play(*events))[1]
            self.assertEqual(told, tokens.answer(events), events)
            self.assertEqual(told == [-6], events in ([0, 0], [2, 1, 2, 2]), events)

    def test_every_short_list_against_a_second_reckoning(self):
        for n, k, arcs in known_tellings():
            tokens = Tokens(expected_net(n, k, arcs))
            rows = [events for size in range(3) for events in product(range(k + 1), repeat=size)]
            told = ask_of((n, k, arcs), [play(*events) for events in rows])
            self.assertEqual(told, [tokens.answer(events) for events in rows], (n, k, arcs))

    def test_longer_lists_against_a_second_reckoning(self):
        for telling in ((6, 3, more_than_seen()), (3, 3, [(0, 0, 1), (1, 1, 2), (2, 2, 0)])):
            tokens = Tokens(expected_net(*telling))
            rows = list(product(range(3), repeat=5))
            told = ask_of(telling, [play(*events) for events in rows])
            self.assertEqual(told, [tokens.answer(events) for events in rows])

    def test_behind_a_second_begin_and_a_refused_one(self):
        told = ask(SWITCH, play(0), LINE, play(0), begin(2, 2, [(0, 0, 1)]), play(0), begin(1, 1, [(0, 0, 0)]), play(0))
        self.assertEqual(told[1::2], [[1, 0], [1, 0, 1], [1, 0, 1], [1]])


class PlayRefused(unittest.TestCase):
    def test_a_place_that_it_leaves_is_not_marked(self):
        self.assertEqual(ask(begin(2, 1, [(0, 0, 1)]), play(0, 0))[1], [-6])
        self.assertEqual(ask(LINE, play(1))[1], [-6])

    def test_a_place_that_it_enters_is_marked(self):
        self.assertEqual(ask(SWITCH, play(1), play(0, 1, 1))[1:], [[-6], [-6]])
        self.assertEqual(ask(ONCE, play(1, 1))[1], [-6])

    def test_one_of_several_places_is_enough(self):
        # Event 1 leaves what event 0 enters and what event 2 enters: both must have happened.
        arcs = [(0, 0, 1), (0, 2, 2), (1, 2, 3), (2, 0, 3), (3, 1, 4)]
        told = ask(begin(5, 3, arcs), play(1), play(0, 1), play(2, 1), play(0, 2, 1), play(2, 0, 1))[1:]
        self.assertEqual([answer[0] for answer in told], [-6, -6, -6, 3, 3])
        # Event 3 enters what events 0 and 1 leave: both must have happened.
        told = ask(begin(4, 3, [(0, 0, 1), (0, 1, 2), (1, 1, 3), (2, 0, 3), (3, 2, 0)]), play(2), play(0, 2),
                   play(1, 2), play(0, 1, 2))[1:]
        self.assertEqual([answer[0] for answer in told], [-6, -6, -6, 3])

    def test_at_the_first_in_the_middle_and_as_the_last(self):
        ring = begin(3, 3, [(0, 0, 1), (1, 1, 2), (2, 2, 0)])
        for events in ([1, 0, 1, 2], [2], [0, 0, 1, 2], [0, 1, 1, 2], [0, 1, 2, 0, 2], [0, 1, 0]):
            self.assertEqual(ask(ring, play(*events))[1], [-6], events)
        self.assertEqual(ask(ring, play(0, 1, 2, 0))[1], [4, 0, 1, 0])
        self.assertEqual(ask(ring, play(*[0, 1, 2] * 341 + [1]))[1], [-6])

    def test_an_event_that_there_is_not(self):
        for there_not in (2, 3, 6, HIGHEST):
            for events in ([there_not], [there_not, 0], [0, there_not, 1], [0, 1, there_not]):
                self.assertEqual(ask(SWITCH, play(*events))[1], [-6], events)
        self.assertEqual(ask(begin(8, 6, cube()), play(5), play(6), play(HIGHEST))[1:], [[-6], [-6], [-6]])
        self.assertEqual(ask(begin(9, 6, everywhere(9, 6)), play(5), play(6), play(5, HIGHEST))[1:], [[1], [-6], [-6]])

    def test_1024_events_that_there_are_not(self):
        self.assertEqual(ask(SWITCH, play(*[HIGHEST] * 1024), play(0)), [[2], [-6], [1, 0]])


class PlayChangesNothing(unittest.TestCase):
    def test_for_the_calls_behind_it(self):
        looks = [REGIONS, crosses(0), OPEN_ONES, PLACES, NET, play(), play(0), play(1), SAME]
        for telling in (SWITCH, LINE, ONCE, begin(9, 6, two_rings()), begin(9, 6, far_more_than_seen())):
            there = ask(telling, *looks)[1:]
            for played in (play(), play(0), play(0, 1), play(1), play(0, 0), play(HIGHEST), play(0, HIGHEST)):
                self.assertEqual(ask(telling, played, *looks)[2:], there)


if __name__ == "__main__":
    unittest.main()
