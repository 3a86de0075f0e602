import contextlib
import inspect
import io
import unittest

from helper import HIGHEST, OPEN_ONES, REGIONS, ask, begin, chain, crosses, cube, everywhere, two_rings
from regionnets.nets import answers

CHANGES = ["append", "clear", "extend", "insert", "pop", "remove", "reverse", "sort", "__setitem__", "__delitem__",
           "__iadd__", "__imul__"]


def forbid(*anything, **named):
    raise AssertionError("the list that is handed in is changed")


# A list that can't be changed shows that it isn't changed for a while either.
Unchanging = type("Unchanging", (list,), {name: forbid for name in CHANGES})


def joined(*calls):
    return sum(calls, [])


MANY = joined(REGIONS, begin(9, 6, two_rings()), REGIONS, OPEN_ONES, crosses(), crosses(0, 1, 2), crosses(2, 1),
              crosses(HIGHEST), begin(0, 0, []), begin(2, 1, [0]), begin(2, 1, [(0, 1, 0)]), begin(2, 1, []),
              begin(3, 1, [(0, 0, 1), (1, 0, 2)]), OPEN_ONES, crosses(0), begin(9, 6, everywhere(9, 6)), OPEN_ONES)


class Form(unittest.TestCase):
    def test_the_function_takes_calls(self):
        self.assertEqual(list(inspect.signature(answers).parameters), ["calls"])
        self.assertEqual(answers(calls=[2]), [1, 0])

    def test_one_call(self):
        self.assertEqual(answers([1, 2, 1, 3, 0, 0, 1]), [1, 1])
        self.assertEqual(answers([2]), [1, 0])
        self.assertEqual(answers([3, 0]), [2, 1, 0])
        self.assertEqual(answers([4]), [1, 0])

    def test_how_many_numbers_stand_before_each_answer(self):
        calls = [1, 3, 2, 6, 0, 0, 1, 1, 1, 2, 2, 3, 2, 0, 2, 4]
        wanted = [1, 2, 16, 6, 1, 0, 1, 1, 1, 2, 2, 0, 1, 2, 0, 2, 2, 1, 2, 3, 1, 2, 1, 1, 0]
        self.assertEqual(answers(calls), wanted)
        self.assertEqual(answers([1, 3, 1, 6, 0, 0, 1, 1, 0, 2, 4]), [1, 2, 13, 4, 0, 0, 1, 0, 0, 2, 0, 1, 2, 1, 2, 0])

    def test_a_refusal_is_its_number_alone(self):
        self.assertEqual(answers([1, 0, 1, 0, 1, 1, 1, 1, 0, 1, 1, 1, 0, 3, 1, 7]), [1, -1, 1, -3, 1, -4, 1, -3])

    def test_a_call_behind_a_refused_one_is_read_from_its_own_start(self):
        told = ask(begin(HIGHEST, HIGHEST, [4] * 1024), OPEN_ONES, crosses(*[2] * 1024), REGIONS,
                   begin(2, 1, [4, 4]), crosses(0))
        self.assertEqual(told, [[-1], [0], [-3], [0], [-3], [1, 0]])

    def test_numbers_within_a_row_are_no_calls(self):
        self.assertEqual(answers([3, 3, 2, 3, 4, 3, 1, 0]), [1, -3, 2, 1, 0])

    def test_gives_back_a_list_of_whole_numbers(self):
        given = answers(list(MANY))
        self.assertIs(type(given), list)
        self.assertEqual({type(number) for number in given}, {int})

    def test_only_crosses_tells_numbers_below_0_behind_the_first(self):
        told = ask(begin(9, 6, everywhere(9, 6)), REGIONS, OPEN_ONES, begin(8, 6, cube()), REGIONS, OPEN_ONES)
        self.assertGreaterEqual(min(sum(told, [])), 0)

    def test_sixty_calls(self):
        told = ask(begin(7, 6, chain(7, range(6))), *[REGIONS, OPEN_ONES] * 29, crosses(1, 3))
        self.assertEqual(len(told), 60)
        self.assertEqual([answer[0] for answer in told], [6] + [126, 0] * 29 + [1])
        self.assertEqual([len(answer) for answer in told], [1] + [127 + 441, 1] * 29 + [7])

    def test_the_longest_list(self):
        rows = [crosses(*[HIGHEST] * 1024)] * 15
        self.assertLessEqual(len(joined(*rows)), 16000)
        self.assertEqual(ask(*rows, *[crosses(0)] * 45), [[-3]] * 15 + [[1, 0]] * 45)


class HandedIn(unittest.TestCase):
    def test_is_the_same_behind_the_call(self):
        calls = list(MANY)
        answers(calls)
        self.assertEqual(calls, MANY)

    def test_is_not_changed_for_a_while_either(self):
        self.assertEqual(answers(Unchanging(MANY)), answers(list(MANY)))

    def test_what_is_given_back_is_another_list_each_time(self):
        calls = [2]
        given = answers(calls)
        given.append(7)
        self.assertEqual(answers(calls), [1, 0])
        self.assertEqual(calls, [2])


class NothingKept(unittest.TestCase):
    def test_two_runs_answer_the_same(self):
        self.assertEqual(answers(list(MANY)), answers(list(MANY)))

    def test_a_run_begins_anew_behind_any_other(self):
        new = answers(joined(REGIONS, OPEN_ONES, crosses(0), crosses(1)))
        for before in (MANY, begin(9, 6, two_rings()), begin(0, 0, []), crosses(5)):
            answers(list(before))
            self.assertEqual(answers(joined(REGIONS, OPEN_ONES, crosses(0), crosses(1))), new)

    def test_prints_nothing(self):
        out = io.StringIO()
        with contextlib.redirect_stdout(out), contextlib.redirect_stderr(out):
            answers(list(MANY))
        self.assertEqual(out.getvalue(), "")


if __name__ == "__main__":
    unittest.main()
