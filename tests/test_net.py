import unittest

from helper import (NET, PLACES, ask, begin, chain, cube, everywhere, expected_net, known_tellings, rows_told,
                    two_rings)


def net(n, k, arcs):
    return ask(begin(n, k, arcs), NET)[1]


class Net(unittest.TestCase):
    def test_before_any_begin(self):
        self.assertEqual(ask(NET), [[0, 0, 0]])

    def test_no_places(self):
        self.assertEqual(net(1, 6, [(0, e, 0) for e in range(6)]), [0] + [0, 0] * 6)
        self.assertEqual(net(2, 1, [(0, 0, 1), (1, 0, 0)]), [0, 0, 0])
        self.assertEqual(net(9, 6, everywhere(9, 6)), [0] + [0, 0] * 6)

    def test_an_event_that_leaves_a_place(self):
        self.assertEqual(net(2, 1, [(0, 0, 1)]), [1, 1, 1, 0, 0])

    def test_an_event_that_enters_a_place(self):
        self.assertEqual(net(2, 2, [(0, 0, 1), (1, 1, 0)]), [1, 1, 1, 0, 0, 0, 1, 0])

    def test_a_place_that_is_not_marked_at_state_0(self):
        # {2} is the only place; event 0 leaves and enters none, event 1 enters it.
        self.assertEqual(net(3, 2, [(0, 0, 1), (1, 1, 2), (0, 1, 2)]), [1, 0, 0, 0, 0, 1, 0])

    def test_an_event_that_leaves_one_and_enters_another(self):
        self.assertEqual(net(3, 2, [(0, 0, 1), (1, 1, 2)]), [2, 1, 0, 1, 0, 1, 1, 1, 1, 0])
        ring = [(0, 0, 1), (1, 1, 2), (2, 2, 0)]
        self.assertEqual(net(3, 3, ring), [3, 1, 0, 0, 1, 0, 1, 1, 1, 1, 1, 2, 1, 2, 1, 0])

    def test_a_chain(self):
        wanted = [6, 1, 0, 0, 0, 0, 0]
        for event in range(5):
            wanted.extend([1, event, 1, event + 1])
        self.assertEqual(net(7, 6, chain(7, range(6))), wanted + [1, 5, 0])

    def test_the_cube(self):
        # Its places are: switch 2 is off, switch 1 is off, switch 0 is off.
        wanted = [3, 1, 1, 1, 1, 2, 0, 1, 1, 0, 1, 0, 0, 0, 1, 2, 0, 1, 1, 0, 1, 0]
        self.assertEqual(net(8, 6, cube()), wanted)

    def test_nine_states_and_six_events(self):
        # Its places are x = 0, y = 0, y = 1, y = 2, x = 1, x = 2.
        wanted = [6, 1, 1, 0, 0, 0, 0,
                  1, 0, 1, 4, 1, 4, 1, 5, 1, 5, 1, 0, 1, 1, 1, 2, 1, 2, 1, 3, 1, 3, 1, 1]
        self.assertEqual(net(9, 6, two_rings()), wanted)

    def test_an_event_that_leaves_and_enters_several_places(self):
        # Both of two lines go on by event 1 at once: 0 ahead of it on the one, 2 on the other.
        arcs = [(0, 0, 1), (0, 2, 2), (1, 2, 3), (2, 0, 3), (3, 1, 4)]
        told = net(5, 3, arcs)
        self.assertEqual(told, expected_net(5, 3, arcs))
        self.assertGreater(max(len(row) for row in rows_told([0] + told[1 + told[0]:], counted=False)), 1)

    def test_as_many_places_as_the_call_places_tells(self):
        for n, k, arcs in known_tellings():
            told = ask(begin(n, k, arcs), PLACES, NET)
            places = rows_told(told[1])
            marked = [int(0 in place) for place in places]
            self.assertEqual(told[2][:1 + len(places)], [len(places)] + marked, (n, k, arcs))

    def test_against_a_second_reckoning(self):
        for n, k, arcs in known_tellings():
            self.assertEqual(net(n, k, arcs), expected_net(n, k, arcs), (n, k, arcs))

    def test_behind_a_second_begin_and_a_refused_one(self):
        told = ask(begin(2, 1, [(0, 0, 1)]), NET, begin(2, 2, [(0, 0, 1), (1, 1, 0)]), NET, begin(1, 1, []), NET,
                   begin(1, 1, [(0, 0, 0)]), NET)
        self.assertEqual(told[1::2], [[1, 1, 1, 0, 0], [1, 1, 1, 0, 0, 0, 1, 0], [1, 1, 1, 0, 0, 0, 1, 0], [0, 0, 0]])


if __name__ == "__main__":
    unittest.main()
