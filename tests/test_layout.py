"""How calls are handed over and answers laid out."""

import builtins
import contextlib
import io
import random
import unittest
from unittest import mock

from tests.helper import CLEAR, HALF, LEAST, LOST, NEEDS, ask, begins, last, line, need, owes, own, pays, without
from whopays.house import answers

MOST = 1000000

BUSY = line(
    begins(3, HALF, HALF), own(0, 4), owes(0, 1, 10), owes(1, 2, 6), owes(2, 1, 5), CLEAR, LEAST,
    pays(0), need(1), NEEDS, without(2), LOST, pays(3), need(3), without(3),
    own(9, 1), begins(0), CLEAR, begins(2), owes(1, 0, 3), CLEAR, LEAST, LOST, without(0), NEEDS, need(1), pays(1),
)

CHANGES = (0, 1, 2)


def drawn_calls(source, count):
    """Calls of all ten kinds, drawn from the source; some of them are refused."""
    calls = []
    for k in range(count):
        i = source.randint(0, 4)
        amount = [source.randint(0, 9), source.randint(0, 4)]
        calls.append(source.choice([
            begins(source.randint(2, 5), (source.randint(0, 3), 3), (source.randint(0, 3), 3)), own(i, *amount),
            owes(i, source.randint(0, 4), *amount), owes(i, source.randint(0, 4), *amount),
            CLEAR, LEAST, pays(i), need(i), NEEDS, without(i), LOST,
        ]))
    return calls


class Layout(unittest.TestCase):
    def test_each_call_tells_how_many_numbers_then_these(self):
        calls = [0, 2, 1, 2, 1, 2, 1, 0, 4, 1, 2, 0, 1, 10, 1, 3, 4]
        self.assertEqual(answers(calls), [
            1, 2,
            1, 0,
            1, 0,
            11, 1, 1, 0, 2, 1, 0, 1, 0, 1, 2, 1,
            9, 1, 2, 1, 0, 1, 0, 1, 2, 1,
        ])

    def test_refusals_are_one_number_each(self):
        self.assertEqual(answers([0, 0, 1, 1, 1, 1, 1, 1, 0, 1, 2, 0, 0, 1, 1, 4]),
                         [1, -1, 1, -2, 1, -1, 1, -6])

    def test_all_ten_calls(self):
        calls = [
            9, 7,
            0, 3, 1, 2, 1, 2, 1, 0, 4, 1, 2, 0, 1, 10, 1, 2, 1, 2, 7, 2,
            8, 0, 6, 0, 3, 5, 0, 9, 4, 7, 6, 3,
            0, 2, 1, 1, 1, 1, 7, 2, 0, 1, 3, 1, 5, 0, 1, 0, 3, 1, 5, 0, 8, 0, 2, 1, 0, 3, 1, 8, 0, 4, 9, 6, 1, 3,
        ]
        self.assertEqual(answers(calls), [
            4, 0, 1, 0, 1,
            3, 1, 0, 1,
            1, 3, 1, 0, 1, 0, 1, 0,
            1, 0,
            2, 6, 1,
            16, 2, 1, 2, 0, 2, 1, 0, 1, 1, 1, 0, 1, 0, 1, 1, 1,
            7, 3, 0, 1, 2, 1, 0, 1,
            4, 3, 1, 21, 2,
            13, 2, 2, 1, 0, 1, 1, 1, 0, 1, 0, 1, 1, 1,
            7, 3, 6, 1, 0, 1, 0, 1,
            1, -2,
            1, 2,
            5, 2, 0, 1, 0, 1,
            1, 0,
            5, 2, 0, 1, 0, 1,
            1, 0,
            5, 2, 0, 1, 3, 1,
            1, 0,
            1, 0,
            2, 1, 1,
            1, -6,
            4, 0, 1, 0, 1,
            2, 0, 1,
            11, 0, 0, 0, 3, 1, 3, 1, 3, 1, 0, 1,
        ])

    def test_any_order(self):
        """Each question is answered as if it alone were asked after what was said before."""
        source = random.Random(10)
        for k in range(60):
            calls = drawn_calls(source, 40)
            told = ask(*calls)
            for place, call in enumerate(calls):
                said = [other for other in calls[:place] if other[0] in CHANGES]
                with self.subTest(calls=calls, place=place):
                    self.assertEqual(last(*said, call), told[place])

    def test_begins_comes_again(self):
        told = ask(begins(3), CLEAR, begins(1), CLEAR, begins(2), CLEAR)
        self.assertEqual([len(row) for row in told], [1, 16, 1, 6, 1, 11])

    def test_sixty_calls(self):
        told = ask(*[begins(1 + k % 8) if k % 2 == 0 else CLEAR for k in range(60)])
        self.assertEqual([row[0] for row in told[0::2]], [1 + k % 8 for k in range(0, 60, 2)])
        self.assertEqual([len(row) for row in told[1::2]], [1 + 5 * (1 + k % 8) for k in range(0, 60, 2)])

    def test_list_of_the_greatest_length(self):
        calls = line(*[begins(8, HALF, HALF) for k in range(60)])
        self.assertEqual(len(calls), 360)
        self.assertEqual(answers(calls), [1, 8] * 60)

    def test_no_number_is_below_nothing_but_a_refusal(self):
        for row in ask(begins(2, HALF, HALF), owes(0, 1, 9), owes(1, 0, 7), own(0, 1, 3), CLEAR, LEAST):
            self.assertGreaterEqual(min(row), 0)


class Beginning(unittest.TestCase):
    def test_clear(self):
        self.assertEqual(answers([3]), [6, 0, 0, 0, 1, 0, 1])

    def test_least_is_refused_as_all_paid_is_kept(self):
        self.assertEqual(answers([4]), [1, -6])

    def test_own(self):
        self.assertEqual(ask(own(0, 6, 4), CLEAR), [[0], [0, 0, 0, 1, 3, 2]])
        self.assertEqual(ask(own(1, 6, 4), CLEAR), [[-2], [0, 0, 0, 1, 0, 1]])

    def test_pays(self):
        self.assertEqual(answers([5, 0]), [3, 1, 0, 1])

    def test_need(self):
        self.assertEqual(answers([6, 0]), [2, 0, 1])

    def test_needs(self):
        self.assertEqual(answers([7]), [3, 1, 0, 1])

    def test_without(self):
        self.assertEqual(answers([8, 0]), [1, 0])

    def test_lost(self):
        self.assertEqual(answers([9]), [4, 0, 1, 0, 1])

    def test_there_is_but_one_party(self):
        for i in (1, 2, 8, MOST):
            with self.subTest(i=i):
                self.assertEqual(answers([5, i, 6, i, 8, i]), [1, -2] * 3)

    def test_with_something_of_its_own(self):
        self.assertEqual(answers([1, 0, 6, 4, 5, 0, 6, 0, 7, 8, 0, 9]),
                         [1, 0, 3, 1, 0, 1, 2, 0, 1, 3, 1, 0, 1, 1, 0, 4, 0, 1, 0, 1])

    def test_owes(self):
        self.assertEqual(ask(owes(0, 0, 1)), [[-1]])
        self.assertEqual(ask(owes(0, 1, 1)), [[-2]])
        self.assertEqual(ask(owes(1, 0, 1)), [[-2]])


class NothingElse(unittest.TestCase):
    def test_what_is_handed_in_stays_as_it_was(self):
        calls = list(BUSY)
        answers(calls)
        self.assertEqual(calls, BUSY)

    def test_what_is_handed_in_is_not_changed_for_a_while_either(self):
        class Unchangeable(list):
            def refuse(self, *args, **kwargs):
                raise AssertionError("the list that was handed in was changed")
            __setitem__ = __delitem__ = __iadd__ = __imul__ = refuse
            append = extend = insert = pop = remove = clear = reverse = sort = refuse

        self.assertEqual(answers(Unchangeable(BUSY)), answers(BUSY))

    def test_asked_twice_it_answers_alike(self):
        first = answers(BUSY)
        answers([0, 8, 0, 1, 0, 1, 1, 0, 5, 1])
        self.assertEqual(answers(BUSY), first)
        self.assertEqual(answers([3]), [6, 0, 0, 0, 1, 0, 1])

    def test_what_is_answered_is_new_each_time(self):
        first = answers(BUSY)
        kept = list(first)
        first.clear()
        self.assertEqual(answers(BUSY), kept)

    def test_prints_and_reads_nothing(self):
        def refuse(*args, **kwargs):
            raise AssertionError("something was read")

        out = io.StringIO()
        err = io.StringIO()
        with contextlib.redirect_stdout(out), contextlib.redirect_stderr(err):
            with mock.patch.object(builtins, "open", refuse), mock.patch.object(builtins, "input", refuse):
                answers(BUSY)
        self.assertEqual((out.getvalue(), err.getvalue()), ("", ""))


if __name__ == "__main__":
    unittest.main()
