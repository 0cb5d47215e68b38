"""The interface: how calls are handed in and answers given back."""

import time
import unittest

from margintext.pieces import answers
from tests.helper import (LEAST, MOST, accept, author, clock, comment, cut, drop, joined, move, put, reanchor, reject,
                          reply, solve, told_by, track)

ONE_OF_EACH = [author(2), clock(3), track(1), put(0, "abcdef"), author(3), cut(0, 1), move(0, 1, 3), accept(1),
               reject(2), comment(0, 2), reply(1), solve(1, 1), reanchor(1, 1, 2), drop(1)]


class FormTest(unittest.TestCase):
    def test_how_many_stands_before_each_answer(self):
        self.assertEqual(answers([0, 5]), [1, 0])
        self.assertEqual(answers([0, 0]), [1, -2])
        self.assertEqual(answers([2, 1, 3, 0, 2, 97, 98, 4, 0, 3, 6, 1]), [1, 0, 1, 1, 1, -1, 1, 0])

    def test_one_of_each(self):
        self.assertEqual(told_by(*ONE_OF_EACH),
                         [[0], [0], [0], [1], [0], [2], [3], [0], [0], [1], [1], [0], [1], [1]])

    def test_a_refused_call_takes_all_its_numbers(self):
        self.assertEqual(told_by(put(9, [0] * 5), comment(0, 9, [0] * 5), reply(4, [0] * 5), move(9, 9, 9),
                                 reanchor(9, 9, 9), author(1)), [[-1], [-1], [-4], [-1], [-4], [0]])

    def test_empty_lists(self):
        self.assertEqual(told_by(put(0, []), comment(0, 1, []), comment(0, 1), reply(1, []), author(1)),
                         [[-2], [-2], [1], [-2], [0]])

    def test_lists_of_two_thousand(self):
        for number, put_answer in ((97, 0), (0, -2), (LEAST, -2), (MOST, -2)):
            row = [number] * 2000
            self.assertEqual(told_by(comment(0, 1), put(0, row), comment(0, 1, row), reply(1, row), author(1)),
                             [[1], [put_answer], [-2], [-2], [0]])

    def test_numbers_at_the_ends_of_the_range(self):
        for end in (LEAST, MOST):
            calls = [author(end), track(end), put(end, "a"), put(0, [end]), cut(end, end), move(end, end, end),
                     accept(end), reject(end), comment(end, end), reply(end), solve(end, end), drop(end),
                     reanchor(end, end, end)]
            self.assertEqual(told_by(*calls), [[-2], [-2], [-1], [-2], [-1], [-1], [-4], [-4], [-1], [-4], [-4], [-4],
                                               [-4]])
        self.assertEqual(told_by(clock(LEAST), clock(MOST), clock(LEAST)), [[-2], [0], [-2]])

    def test_answers_are_plain_whole_numbers(self):
        told = answers(joined(ONE_OF_EACH))
        self.assertIs(type(told), list)
        self.assertEqual({type(number) for number in told}, {int})


class NothingKeptTest(unittest.TestCase):
    def test_what_is_handed_in_is_the_same_behind_the_call(self):
        calls = joined(ONE_OF_EACH)
        kept = list(calls)
        answers(calls)
        self.assertEqual(calls, kept)

    def test_twice_gives_back_the_same(self):
        calls = joined(ONE_OF_EACH)
        first = answers(calls)
        kept = list(first)
        second = answers(calls)
        self.assertEqual(second, kept)
        self.assertEqual(first, kept)
        self.assertIsNot(first, second)

    def test_another_line_between_changes_nothing(self):
        calls = joined(ONE_OF_EACH)
        first = answers(calls)
        answers(joined([author(9), clock(MOST), track(1), put(0, "zz"), comment(0, 1)]))
        self.assertEqual(answers(calls), first)


class LongLinesTest(unittest.TestCase):
    def test_long_texts_moved_many_times(self):
        calls = [put(0, [97] * 2000)] * 7 + [track(1)]
        for turn in range(195):
            calls += [author(1 + turn % 2), move(0, 13999, 14000)]
        self.assertLessEqual(len(calls), 400)
        self.assertLessEqual(len(joined(calls)), 16000)
        begun = time.monotonic()
        told = told_by(*calls)
        self.assertLess(time.monotonic() - begun, 60)
        self.assertEqual(told[9::2], [[m] for m in range(1, 196)])

    def test_many_calls_on_short_pieces(self):
        calls = [put(0, "ab")] * 100 + [track(1)]
        for turn in range(75):
            calls += [comment(turn, 200 - turn), author(1 + turn % 2), move(turn, 150 + turn % 7, 200), clock(turn)]
        calls = calls[:400]
        begun = time.monotonic()
        told = told_by(*calls)
        self.assertLess(time.monotonic() - begun, 60)
        self.assertEqual(told[101::4], [[c] for c in range(1, 76)])


if __name__ == "__main__":
    unittest.main()
