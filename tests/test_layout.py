"""How calls are handed over and answers laid out."""

import builtins
import contextlib
import io
import unittest
from unittest import mock

from tests.helper import CLEAR, HALF, LEAST, ask, begins, line, owes, own
from whopays.house import answers

BUSY = line(
    begins(3, HALF, HALF), own(0, 4), owes(0, 1, 10), owes(1, 2, 6), owes(2, 1, 5), CLEAR, LEAST,
    own(9, 1), begins(0), CLEAR, begins(2), owes(1, 0, 3), CLEAR, LEAST,
)


class Layout(unittest.TestCase):
    def test_each_call_tells_how_many_numbers_then_these(self):
        calls = [0, 2, 1, 2, 1, 2, 1, 0, 4, 1, 2, 0, 1, 10, 1, 3, 4]
        self.assertEqual(answers(calls), [
            1, 2,
            1, 0,
            1, 0,
            11, 1, 1, 0, 2, 1, 0, 1, 0, 1, 2, 1,
            9, 1, 2, 1, 0, 1, 0, 1, 2, 1,
        ])

    def test_refusals_are_one_number_each(self):
        self.assertEqual(answers([0, 0, 1, 1, 1, 1, 1, 1, 0, 1, 2, 0, 0, 1, 1, 4]),
                         [1, -1, 1, -2, 1, -1, 1, -6])

    def test_begins_comes_again(self):
        told = ask(begins(3), CLEAR, begins(1), CLEAR, begins(2), CLEAR)
        self.assertEqual([len(row) for row in told], [1, 16, 1, 6, 1, 11])

    def test_sixty_calls(self):
        told = ask(*[begins(1 + k % 8) if k % 2 == 0 else CLEAR for k in range(60)])
        self.assertEqual([row[0] for row in told[0::2]], [1 + k % 8 for k in range(0, 60, 2)])
        self.assertEqual([len(row) for row in told[1::2]], [1 + 5 * (1 + k % 8) for k in range(0, 60, 2)])

    def test_list_of_the_greatest_length(self):
        calls = line(*[begins(8, HALF, HALF) for k in range(60)])
        self.assertEqual(len(calls), 360)
        self.assertEqual(answers(calls), [1, 8] * 60)

    def test_no_number_is_below_nothing_but_a_refusal(self):
        for row in ask(begins(2, HALF, HALF), owes(0, 1, 9), owes(1, 0, 7), own(0, 1, 3), CLEAR, LEAST):
            self.assertGreaterEqual(min(row), 0)


class Beginning(unittest.TestCase):
    def test_clear(self):
        self.assertEqual(answers([3]), [6, 0, 0, 0, 1, 0, 1])

    def test_least_is_refused_as_all_paid_is_kept(self):
        self.assertEqual(answers([4]), [1, -6])

    def test_own(self):
        self.assertEqual(ask(own(0, 6, 4), CLEAR), [[0], [0, 0, 0, 1, 3, 2]])
        self.assertEqual(ask(own(1, 6, 4), CLEAR), [[-2], [0, 0, 0, 1, 0, 1]])

    def test_owes(self):
        self.assertEqual(ask(owes(0, 0, 1)), [[-1]])
        self.assertEqual(ask(owes(0, 1, 1)), [[-2]])
        self.assertEqual(ask(owes(1, 0, 1)), [[-2]])


class NothingElse(unittest.TestCase):
    def test_what_is_handed_in_stays_as_it_was(self):
        calls = list(BUSY)
        answers(calls)
        self.assertEqual(calls, BUSY)

    def test_what_is_handed_in_is_not_changed_for_a_while_either(self):
        class Unchangeable(list):
            def refuse(self, *args, **kwargs):
                raise AssertionError("the list that was handed in was changed")
            __setitem__ = __delitem__ = __iadd__ = __imul__ = refuse
            append = extend = insert = pop = remove = clear = reverse = sort = refuse

        self.assertEqual(answers(Unchangeable(BUSY)), answers(BUSY))

    def test_asked_twice_it_answers_alike(self):
        first = answers(BUSY)
        answers([0, 8, 0, 1, 0, 1, 1, 0, 5, 1])
        self.assertEqual(answers(BUSY), first)
        self.assertEqual(answers([3]), [6, 0, 0, 0, 1, 0, 1])

    def test_what_is_answered_is_new_each_time(self):
        first = answers(BUSY)
        kept = list(first)
        first.clear()
        self.assertEqual(answers(BUSY), kept)

    def test_prints_and_reads_nothing(self):
        def refuse(*args, **kwargs):
            raise AssertionError("something was read")

        out = io.StringIO()
        err = io.StringIO()
        with contextlib.redirect_stdout(out), contextlib.redirect_stderr(err):
            with mock.patch.object(builtins, "open", refuse), mock.patch.object(builtins, "input", refuse):
                answers(BUSY)
        self.assertEqual((out.getvalue(), err.getvalue()), ("", ""))


if __name__ == "__main__":
    unittest.main()
