import contextlib
import inspect
import io
import unittest

from helper import (HIGHEST, NET, OPEN_ONES, PLACES, REGIONS, SAME, Tokens, ask, begin, chain, crosses, cube,
                    everywhere, expected_crosses, expected_net, expected_open, expected_places, expected_regions,
                    expected_same, far_more_than_seen, flat_rows, is_as_said, more_than_seen, play,
                    scattered_numbers, scattered_tellings, two_rings)
from regionnets.nets import answers

CHANGES = ["append", "clear", "extend", "insert", "pop", "remove", "reverse", "sort", "__setitem__", "__delitem__",
           "__iadd__", "__imul__"]


def forbid(*anything, **named):
    raise AssertionError("the list that is handed in is changed")


# A list that can't be changed shows that it isn't changed for a while either.
Unchanging = type("Unchanging", (list,), {name: forbid for name in CHANGES})


def joined(*calls):
    return sum(calls, [])


MANY = joined(REGIONS, PLACES, NET, play(0), SAME, begin(9, 6, two_rings()), REGIONS, OPEN_ONES, crosses(),
              crosses(0, 1, 2), crosses(2, 1), crosses(HIGHEST), PLACES, NET, play(), play(0, 3, 1), play(1), SAME,
              begin(0, 0, []), begin(2, 1, [0]), begin(2, 1, [(0, 1, 0)]), begin(2, 1, []), play(HIGHEST), SAME,
              begin(3, 1, [(0, 0, 1), (1, 0, 2)]), OPEN_ONES, crosses(0), PLACES, play(0, 0, 0), NET, SAME,
              begin(9, 6, everywhere(9, 6)), OPEN_ONES, NET, begin(6, 3, more_than_seen()), PLACES, NET, play(0, 2),
              SAME, play(0, 0), play())


class Form(unittest.TestCase):
    def test_the_function_takes_calls(self):
        self.assertEqual(list(inspect.signature(answers).parameters), ["calls"])
        self.assertEqual(answers(calls=[2]), [1, 0])

    def test_one_call(self):
        self.assertEqual(answers([1, 2, 1, 3, 0, 0, 1]), [1, 1])
        self.assertEqual(answers([2]), [1, 0])
        self.assertEqual(answers([3, 0]), [2, 1, 0])
        self.assertEqual(answers([4]), [1, 0])
        self.assertEqual(answers([5]), [1, 0])
        self.assertEqual(answers([6]), [3, 0, 0, 0])
        self.assertEqual(answers([7, 0]), [1, 0])
        self.assertEqual(answers([7, 2, 0, 0]), [1, 2])
        self.assertEqual(answers([8]), [2, 1, 1])

    def test_how_many_numbers_stand_before_each_answer(self):
        calls = [1, 3, 2, 6, 0, 0, 1, 1, 1, 2, 2, 3, 2, 0, 2, 4]
        wanted = [1, 2, 16, 6, 1, 0, 1, 1, 1, 2, 2, 0, 1, 2, 0, 2, 2, 1, 2, 3, 1, 2, 1, 1, 0]
        self.assertEqual(answers(calls), wanted)
        self.assertEqual(answers([1, 3, 1, 6, 0, 0, 1, 1, 0, 2, 4]), [1, 2, 13, 4, 0, 0, 1, 0, 0, 2, 0, 1, 2, 1, 2, 0])
        calls = [1, 3, 2, 6, 0, 0, 1, 1, 1, 2, 5, 6, 7, 1, 0, 8]
        wanted = [1, 2, 5, 2, 1, 0, 1, 1, 10, 2, 1, 0, 1, 0, 1, 1, 1, 1, 0, 3, 1, 0, 1, 2, 1, 3]
        self.assertEqual(answers(calls), wanted)

    def test_a_refusal_is_its_number_alone(self):
        self.assertEqual(answers([1, 0, 1, 0, 1, 1, 1, 1, 0, 1, 1, 1, 0, 3, 1, 7]), [1, -1, 1, -3, 1, -4, 1, -3])
        self.assertEqual(answers([7, 3, 0, 1, 0, 7, 1, HIGHEST]), [1, -6, 1, -6])

    def test_a_call_behind_a_refused_one_is_read_from_its_own_start(self):
        told = ask(begin(HIGHEST, HIGHEST, [4] * 1024), OPEN_ONES, crosses(*[2] * 1024), REGIONS,
                   begin(2, 1, [4, 4]), crosses(0), play(*[8] * 1024), SAME, play(7, 0, 5), play(0))
        self.assertEqual(told, [[-1], [0], [-3], [0], [-3], [1, 0], [-6], [1, 1], [-6], [1]])

    def test_numbers_within_a_row_are_no_calls(self):
        self.assertEqual(answers([3, 3, 2, 3, 4, 3, 1, 0]), [1, -3, 2, 1, 0])
        self.assertEqual(answers([7, 4, 5, 6, 7, 8, 7, 1, 0]), [1, -6, 1, 1])

    def test_gives_back_a_list_of_whole_numbers(self):
        given = answers(list(MANY))
        self.assertIs(type(given), list)
        self.assertEqual({type(number) for number in given}, {int})

    def test_only_crosses_tells_numbers_below_0_behind_the_first(self):
        looks = [REGIONS, OPEN_ONES, PLACES, NET, play(), play(0), play(5), play(6), SAME]
        for n, k, arcs in ((9, 6, everywhere(9, 6)), (8, 6, cube()), (9, 6, far_more_than_seen())):
            told = ask(begin(n, k, arcs), *looks)
            self.assertEqual([answer for answer in told if len(answer) > 1 and min(answer) < 0], [])
            self.assertEqual({answer[0] for answer in told if answer[0] < 0}, {-6})

    def test_sixty_calls(self):
        told = ask(begin(7, 6, chain(7, range(6))), *[REGIONS, OPEN_ONES] * 29, crosses(1, 3))
        self.assertEqual(len(told), 60)
        self.assertEqual([answer[0] for answer in told], [6] + [126, 0] * 29 + [1])
        self.assertEqual([len(answer) for answer in told], [1] + [127 + 441, 1] * 29 + [7])

    def test_sixty_times_the_same_call_before_any_begin(self):
        for call, wanted in ((REGIONS, [0]), (crosses(0), [1, 0]), (OPEN_ONES, [0]), (PLACES, [0]), (NET, [0, 0, 0]),
                             (play(0, 0), [2]), (SAME, [1, 1]), (begin(1, 1, [(0, 0, 0)]), [1])):
            self.assertEqual(ask(*[call] * 60), [wanted] * 60)

    def test_the_same_call_again_and_again_at_nine_states_and_six_events(self):
        for arcs in (two_rings(), everywhere(9, 6), far_more_than_seen()):
            telling = begin(9, 6, arcs)
            for call in (REGIONS, crosses(0, 4), OPEN_ONES, PLACES, NET, play(0, 3), play(6), SAME, telling):
                self.assertEqual(ask(telling, *[call] * 59)[1:], ask(telling, call)[1:] * 59)

    def test_the_longest_list(self):
        rows = [crosses(*[HIGHEST] * 1024)] * 15
        self.assertLessEqual(len(joined(*rows)), 16000)
        self.assertEqual(ask(*rows, *[crosses(0)] * 45), [[-3]] * 15 + [[1, 0]] * 45)
        rows = [play(*[0] * 1024)] * 15
        self.assertEqual(ask(*rows, *[SAME] * 45), [[1024]] * 15 + [[1, 1]] * 45)


class AnyOrder(unittest.TestCase):
    def test_no_call_but_begin_changes_what_another_answers(self):
        looks = [REGIONS, crosses(0), crosses(9), OPEN_ONES, PLACES, NET, play(0), play(0, 0), SAME, begin(0, 1, [])]
        for telling in (begin(9, 6, two_rings()), begin(6, 3, more_than_seen())):
            alone = [ask(telling, look)[1] for look in looks]
            for first, look in enumerate(looks):
                told = ask(telling, look, *looks)[1:]
                self.assertEqual(told, [alone[first]] + alone)

    def test_calls_put_together_at_will(self):
        numbers = scattered_numbers(3)
        tellings = list(scattered_tellings(200, 4)) + [(3, 3, [(0, 0, 1), (1, 1, 2), (2, 2, 0)])] * 30
        for turn in range(60):
            now = 1, 1, [(0, 0, 0)]
            calls, wanted = [], []
            for place in range(1 + next(numbers) % 60):
                call, now, answer = self.one_more(numbers, tellings, now)
                calls.append(call)
                wanted.append(answer)
            self.assertEqual(ask(*calls), wanted)

    def one_more(self, numbers, tellings, now):
        """A call, what is told behind it, and what it answers."""
        n, k, arcs = now
        which = 1 + next(numbers) % 8
        row = [next(numbers) % 10 for place in range(next(numbers) % 4)]
        if which == 1:
            other = tellings[next(numbers) % len(tellings)]
            # One time in three an arc is left out, so that it may not be as said.
            if next(numbers) % 3 == 0:
                other = other[0], other[1], other[2][1:]
            said = is_as_said(*other)
            return begin(*other), other if said else now, [len(other[2])] if said else [-4]
        if which == 3:
            fine = row == sorted(set(row)) and all(state < n for state in row)
            return crosses(*row), now, expected_crosses(k, arcs, row) if fine else [-3]
        if which == 7:
            return play(*row), now, Tokens(expected_net(*now)).answer(row)
        wanted = {2: lambda: flat_rows(expected_regions(*now)), 4: lambda: expected_open(*now),
                  5: lambda: flat_rows(expected_places(*now)), 6: lambda: expected_net(*now),
                  8: lambda: expected_same(*now)}
        return [which], now, wanted[which]()


class HandedIn(unittest.TestCase):
    def test_is_the_same_behind_the_call(self):
        calls = list(MANY)
        answers(calls)
        self.assertEqual(calls, MANY)

    def test_is_not_changed_for_a_while_either(self):
        self.assertEqual(answers(Unchanging(MANY)), answers(list(MANY)))

    def test_what_is_given_back_is_another_list_each_time(self):
        calls = [2]
        given = answers(calls)
        given.append(7)
        self.assertEqual(answers(calls), [1, 0])
        self.assertEqual(calls, [2])


class NothingKept(unittest.TestCase):
    def test_two_runs_answer_the_same(self):
        self.assertEqual(answers(list(MANY)), answers(list(MANY)))

    def test_a_run_begins_anew_behind_any_other(self):
        looks = joined(REGIONS, OPEN_ONES, crosses(0), crosses(1), PLACES, NET, play(0), play(1), SAME)
        new = answers(list(looks))
        for before in (MANY, begin(9, 6, two_rings()), begin(0, 0, []), crosses(5), play(0, 0), play(3), SAME):
            answers(list(before))
            self.assertEqual(answers(list(looks)), new)

    def test_prints_nothing(self):
        out = io.StringIO()
        with contextlib.redirect_stdout(out), contextlib.redirect_stderr(out):
            answers(list(MANY))
        self.assertEqual(out.getvalue(), "")


if __name__ == "__main__":
    unittest.main()
