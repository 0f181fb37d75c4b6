"""How calls are handed in and answers given back, and that nothing is changed or kept."""

import contextlib
import inspect
import io
import unittest

from rootfield.field import answers

from helper import (
    HUGE, alike, by, drop, field, flat, least, minus, norm, number, plus, polynomial, run, signs, times, told, trace,
    whole,
)

EVERY_CALL = [
    drop(), field(-2, 0, 0), number(2, 4, 0, 3, -1, 1), number(1, 1, 1, 1, 0, 1), plus(0, 1), minus(0, 1),
    times(0, 1), by(0, 1), told(0), norm(1), trace(2), polynomial(3), least(4), whole(5), signs(0), alike(0, 1),
    told(6), by(0, HUGE), alike(HUGE, 0), number(1, 0), field(), field(0, 0), drop(), told(5), signs(5),
    field(1, 0, -10, 0), number(*[0, 1] * 4), signs(0), least(0), drop(), drop(),
]


class Watched(list):
    """A list that notes whatever would change it."""

    changes = 0

    def changing(self, *ignored):
        Watched.changes += 1

    __setitem__ = __delitem__ = __iadd__ = __imul__ = changing
    append = clear = extend = insert = pop = remove = reverse = sort = changing


class Interface(unittest.TestCase):
    def test_the_function(self):
        self.assertEqual(list(inspect.signature(answers).parameters), ["calls"])
        self.assertEqual(answers.__module__, "rootfield.field")

    def test_rows_have_their_length_ahead(self):
        self.assertEqual(answers([0, 2, -2, 0]), [1, 2])
        self.assertEqual(answers([0, 0]), [1, -1])
        self.assertEqual(answers([0, 6, 0, 2, -2, 0, 1, 1]), [1, -1])
        self.assertEqual(answers([1, 4, 1, 2, 1, 3]), [1, 0])
        self.assertEqual(answers([1, 0, 0, 2, -2, 0]), [1, -1, 1, 2])
        self.assertEqual(answers([1, 10, 0, 2, -2, 0, 1, 1, 0, 0, 6, 0]), [1, -1])

    def test_answers_have_their_length_ahead(self):
        start = [0, 2, -2, 0, 1, 4, 2, 4, -1, 3]
        self.assertEqual(answers(start + [6, 0]), [1, 2, 1, 0, 5, 0, 1, 2, -1, 3])
        self.assertEqual(answers(start + [7, 0]), [1, 2, 1, 0, 3, 0, 1, 36])
        self.assertEqual(
            answers(start + [2, 0, 0, 3, 0, 1, 4, 0, 0, 5, 0, 0, 6, 3, 6, 4, 6, 5]),
            [1, 2, 1, 0, 1, 1, 1, 2, 1, 3, 1, 4, 5, 0, 17, 36, -1, 3, 5, 0, 1, 1, 0, 1, 1, -2])

    def test_answers_that_tell_more(self):
        start = [0, 2, -2, 0, 1, 4, 2, 4, -1, 3]
        self.assertEqual(answers(start + [8, 0]), [1, 2, 1, 0, 3, 0, 1, 1])
        self.assertEqual(answers(start + [9, 0]), [1, 2, 1, 0, 7, 0, 1, 36, -1, 1, 1, 1])
        self.assertEqual(answers(start + [10, 0]), [1, 2, 1, 0, 7, 2, 1, 36, -1, 1, 1, 1])
        self.assertEqual(answers(start + [11, 0]), [1, 2, 1, 0, 1, 0])
        self.assertEqual(answers(start + [12, 0]), [1, 2, 1, 0, 3, 2, 1, 1])
        self.assertEqual(answers(start + [13, 0, 0]), [1, 2, 1, 0, 1, 1])
        self.assertEqual(answers(start + [14]), [1, 2, 1, 0, 1, 0])
        self.assertEqual(answers([1, 4, 2, 1, 0, 1, 12, 0, 10, 0]), [1, 0, 1, 0, 5, 1, -2, 1, 1, 1])

    def test_drop_has_neither_numbers_nor_rows(self):
        self.assertEqual(answers([14]), [1, -4])
        self.assertEqual(answers([14, 14, 14]), [1, -4] * 3)
        self.assertEqual(
            answers([1, 4, 1, 1, 2, 1, 14, 14, 0, 2, -2, 0, 14, 1, 4, 5, 1, 6, 1, 6, 0]),
            [1, 0, 1, 0, 1, -4, 1, 2, 1, -4, 1, 0, 5, 0, 5, 1, 6, 1])

    def test_a_refusal_is_alone(self):
        self.assertEqual(
            answers([8, 0, 9, 0, 10, 0, 11, 0, 12, 0, 13, 0, 0, 14, 1, 4, 1, 1, 1, 1, 13, 0, 1, 13, 1, 0]),
            [1, -2] * 6 + [1, -4, 1, 0, 1, -2, 1, -2])
        self.assertEqual(
            answers([0, 1, 1, 0, 2, 0, 0, 1, 2, 1, 1, 2, 0, 0, 6, 0, 7, 9, 1, 4, 0, 1, 0, 1, 5, 0, 0]),
            [1, -1, 1, -3, 1, -1, 1, -2, 1, -2, 1, -2, 1, 0, 1, -3])

    def test_forty_calls(self):
        self.assertEqual(run(*[told(0)] * 40), [[-2]] * 40)
        calls = [number(k, 1, 1, 1) for k in range(8)] + [number(*[HUGE] * 10)] * 28 + [told(7)] * 4
        self.assertEqual(run(*calls), [[k] for k in range(8)] + [[-1]] * 28 + [[0, 7, 1, 1, 1]] * 4)

    def test_whole_numbers_in_a_list(self):
        given = answers(flat(EVERY_CALL))
        self.assertIs(type(given), list)
        self.assertEqual({type(one) for one in given}, {int})

    def test_only_a_refusal_is_answered_below_0(self):
        for one in run(*EVERY_CALL):
            self.assertTrue(one[0] >= 0 or len(one) == 1, one)


class NothingChanged(unittest.TestCase):
    def test_what_is_handed_in(self):
        handed_in = flat(EVERY_CALL)
        before = list(handed_in)
        answers(handed_in)
        self.assertEqual(handed_in, before)

    def test_not_for_a_while_either(self):
        Watched.changes = 0
        answers(Watched(flat(EVERY_CALL)))
        self.assertEqual(Watched.changes, 0)


class NothingKept(unittest.TestCase):
    def test_the_same_answer_again(self):
        handed_in = flat(EVERY_CALL)
        first = answers(handed_in)
        copy = list(first)
        answers(flat([field(3, 0), number(1, 1, 2, 1)]))
        self.assertEqual(answers(handed_in), copy)
        first.clear()
        self.assertEqual(answers(handed_in), copy)

    def test_each_time_a_new_field(self):
        run(field(-2, 0), number(1, 1, 1, 1))
        self.assertEqual(run(told(0)), [[-2]])
        self.assertEqual(run(number(0, 1, 1, 1), norm(0)), [[0], [0, 1, 1]])

    def test_prints_nothing(self):
        out, err = io.StringIO(), io.StringIO()
        with contextlib.redirect_stdout(out), contextlib.redirect_stderr(err):
            answers(flat(EVERY_CALL))
        self.assertEqual(out.getvalue() + err.getvalue(), "")


if __name__ == "__main__":
    unittest.main()
