"""The interface: how calls are handed in and answers given back."""

import time
import unittest

from margintext.pieces import answers
from tests.helper import (LEAST, MOST, Model, accept, at, author, bookmark, bookmarks, clock, codes, comment, cut, drop,
                          goto, joined, list_of, move, put, reanchor, reject, reply, rescue, size, solve, spots, state,
                          text, thread, told_by, track, unmark, waiting, with_count)

ONE_OF_EACH = [author(2), clock(3), track(1), put(0, "abcdef"), author(3), cut(0, 1), move(0, 1, 3), accept(1),
               reject(2), comment(0, 2, "hm"), reply(1, "ah"), solve(1, 1), reanchor(1, 1, 2), bookmark(0, 3, "bm"),
               goto("bm"), state(1), thread(1), spots(1), list_of(0), at(1), waiting(3), bookmarks(), text(1), size(),
               track(0), cut(0, 6), goto("bm"), rescue(1), put(0, "cde"), rescue(1), unmark("bm"), text(0), drop(1)]


class FormTest(unittest.TestCase):
    def test_how_many_stands_before_each_answer(self):
        self.assertEqual(answers([0, 5]), [1, 0])
        self.assertEqual(answers([0, 0]), [1, -2])
        self.assertEqual(answers([2, 1, 3, 0, 2, 97, 98, 4, 0, 3, 6, 1]), [1, 0, 1, 1, 1, -1, 1, 0])

    def test_one_of_each(self):
        # Behind the reject the row is a b-3 c d b+3 e f and the last end.
        self.assertEqual(sorted({call[0] for call in ONE_OF_EACH}), list(range(26)))
        self.assertEqual(told_by(*ONE_OF_EACH),
                         [[0], [0], [0], [1], [0], [2], [3], [0], [0], [1], [1], [0], [1], [1],
                          [0, 3], [2, 1, 1, 1, 1], [3, 3, 1, 99, 2, 104, 109, 1, 3, 3, 2, 97, 104], [1, 1, 2], [1, 1],
                          [1, 1, 1, 2, 98, 109], [0], [1, 2, 98, 109, 0, 3], [7, 97, 99, 100, 98, 101, 102, 10],
                          [7, 8, 3, 1, 1], [0], [0], [-7], [-8], [0], [0, 1], [1],
                          [5, 98, 0, 1, 3, 0, 0, 99, 0, 0, 1, 1, 0, 100, 0, 0, 0, 0, 101, 0, 0, 0, 0, 10, 0, 0, 0, 0],
                          [1]])

    def test_a_refused_call_takes_all_its_numbers(self):
        self.assertEqual(told_by(put(9, [0] * 5), comment(0, 9, [0] * 5), reply(4, [0] * 5), move(9, 9, 9),
                                 reanchor(9, 9, 9), rescue(9), bookmark(0, 9, [0] * 5), unmark([0] * 5), goto([0] * 5),
                                 state(9), thread(9), spots(9), list_of(9), at(9), waiting(0), text(9), author(1)),
                         [[-1], [-1], [-4], [-1], [-4], [-4], [-1], [-4], [-4], [-4], [-4], [-4], [-2], [-1], [-2],
                          [-2], [0]])

    def test_empty_lists(self):
        self.assertEqual(told_by(put(0, []), comment(0, 1, []), comment(0, 1), reply(1, []), bookmark(0, 1, []),
                                 unmark([]), goto([]), author(1)),
                         [[-2], [-2], [1], [-2], [-2], [-4], [-4], [0]])

    def test_lists_of_two_thousand(self):
        for number, put_answer in ((97, 0), (0, -2), (LEAST, -2), (MOST, -2)):
            row = [number] * 2000
            self.assertEqual(told_by(comment(0, 1), put(0, row), comment(0, 1, row), reply(1, row),
                                     bookmark(0, 1, row), unmark(row), goto(row), author(1)),
                             [[1], [put_answer], [-2], [-2], [-2], [-4], [-4], [0]])

    def test_numbers_at_the_ends_of_the_range(self):
        for end in (LEAST, MOST):
            calls = [author(end), track(end), put(end, "a"), put(0, [end]), cut(end, end), move(end, end, end),
                     accept(end), reject(end), comment(end, end), reply(end), solve(end, end), drop(end),
                     reanchor(end, end, end), rescue(end), bookmark(end, end, [end]), bookmark(0, 1, [end]),
                     unmark([end]), goto([end]), state(end), thread(end), spots(end), list_of(end), at(end),
                     waiting(end), text(end)]
            self.assertEqual(told_by(*calls), [[-2], [-2], [-1], [-2], [-1], [-1], [-4], [-4], [-1], [-4], [-4], [-4],
                                               [-4], [-4], [-1], [-2], [-4], [-4], [-4], [-4], [-4], [-2], [-1], [-2],
                                               [-2]])
            self.assertEqual(told_by(*calls, text(0), size(), list_of(0), bookmarks())[-4:],
                             [[1, 10, 0, 0, 0, 0], [1, 1, 0, 0, 0], [0], [0]])
        self.assertEqual(told_by(clock(LEAST), clock(MOST), clock(LEAST)), [[-2], [0], [-2]])

    def test_answers_are_plain_whole_numbers(self):
        told = answers(joined(ONE_OF_EACH))
        self.assertIs(type(told), list)
        self.assertEqual({type(number) for number in told}, {int})


class NothingKeptTest(unittest.TestCase):
    def test_what_is_handed_in_is_the_same_behind_the_call(self):
        calls = joined(ONE_OF_EACH)
        kept = list(calls)
        answers(calls)
        self.assertEqual(calls, kept)

    def test_twice_gives_back_the_same(self):
        calls = joined(ONE_OF_EACH)
        first = answers(calls)
        kept = list(first)
        second = answers(calls)
        self.assertEqual(second, kept)
        self.assertEqual(first, kept)
        self.assertIsNot(first, second)

    def test_another_line_between_changes_nothing(self):
        calls = joined(ONE_OF_EACH)
        first = answers(calls)
        answers(joined([author(9), clock(MOST), track(1), put(0, "zz"), comment(0, 1), bookmark(0, 1, "bm")]))
        self.assertEqual(answers(calls), first)


class LongLinesTest(unittest.TestCase):
    def timed(self, calls):
        """What the calls are answered; they fit into a line, and are not slow."""
        self.assertLessEqual(len(calls), 400)
        self.assertLessEqual(len(joined(calls)), 16000)
        begun = time.monotonic()
        told = told_by(*calls)
        self.assertLess(time.monotonic() - begun, 60)
        return told

    def test_long_texts_moved_many_times(self):
        calls = [put(0, [97] * 2000)] * 7 + [track(1)]
        for turn in range(195):
            calls += [author(1 + turn % 2), move(0, 13999, 14000)]
        told = self.timed(calls)
        self.assertEqual(told[9::2], [[m] for m in range(1, 196)])

    def test_many_calls_on_short_pieces(self):
        calls = [put(0, "ab")] * 100 + [track(1)]
        for turn in range(75):
            calls += [comment(turn, 200 - turn), author(1 + turn % 2), move(turn, 150 + turn % 7, 200), clock(turn)]
        calls = calls[:400]
        told = self.timed(calls)
        self.assertEqual(told[101::4], [[c] for c in range(1, 76)])

    def test_a_line_of_16000_numbers(self):
        signs = [97 + k % 26 for k in range(2000)]
        calls = [put(0, signs)] * 7 + [comment(0, 14001), bookmark(7000, 14001, "half"), track(1), author(2)]
        calls += [cut(0, 1), spots(1), goto("half"), state(1)] * 90
        calls += [accept(0), text(1), text(2), size(), thread(1), bookmarks(), list_of(0), at(13910)]
        spare = 16000 - len(joined(calls)) - 3
        calls.append(put(0, [32] * spare))
        self.assertEqual(len(joined(calls)), 16000)
        told = self.timed(calls)
        for turn in range(90):
            # Every 26 signs the text begins as it did.
            is_quote = 1 if (turn + 1) % 26 == 0 else 0
            self.assertEqual(told[11 + 4 * turn:15 + 4 * turn],
                             [[turn + 1], [1, 0, 14000 - turn], [6999 - turn, 14000 - turn],
                              [2, 14000 - turn, 14001, is_quote, 0]])
        left = (signs * 7 + [10])[90:]
        self.assertEqual(told[371:], [[90], with_count(left), with_count(left), [13911, 13911, 90, 1, 1],
                                      [1, 0, 40] + signs[:40] + with_count(codes("note")) + [0],
                                      [1, 4] + codes("half") + [6910, 13911], [1, 1],
                                      [1, 1, 1, 4] + codes("half"), [91]])

    def test_rescue_in_a_long_text(self):
        # Forty signs that nearly fit everywhere.
        calls = [put(0, [97] * 39 + [98]), comment(0, 40), cut(0, 40)] + [put(0, [97] * 2000)] * 7
        calls += [rescue(1)] * 200 + [put(14000, "b"), rescue(1), rescue(1), spots(1)]
        told = self.timed(calls)
        self.assertEqual(told[10:], [[-8]] * 200 + [[0], [13961, 14001], [-7], [1, 13961, 14001]])

    def test_all_pieces_of_a_long_row(self):
        calls = [put(0, [97] * 2000)] * 5 + [comment(0, 10000), bookmark(0, 10000, "all"), track(1)]
        for turn in range(20):
            calls += [author(2 + turn), move(0, 9999, 10000)]
        told = self.timed(calls + [size(), text(0), text(1), state(1), goto("all")])
        pieces = 10001 + 20 * 9999
        self.assertEqual(told[-5], [10001, pieces, 20, 1, 1])
        self.assertEqual(told[-3], [10001] + [97] * 10000 + [10])
        self.assertEqual(told[-2], [2, 10000, pieces - 1, 1, 0])
        self.assertEqual(told[-1], [0, 10000])
        self.assertEqual(told[-4][0], pieces)
        self.assertEqual(told[-4][1:7], [97, 0, 1, 1, 1, 1])
        self.assertEqual(told[-4][-5:], [10, 0, 0, 0, 0])

    def test_many_marks_on_a_long_row(self):
        names = [codes("b") + [97 + k // 26, 97 + k % 26] for k in range(90)]
        calls = [put(0, [97] * 2000)] * 3 + [track(1)]
        calls += [comment(k, 6000 - k, "n") for k in range(80)] + [bookmark(k, 6000 - k, names[k]) for k in range(80)]
        for turn in range(60):
            calls += [author(2 + turn), move(0, 5999, 6000)]
        calls += [list_of(0), bookmarks(), waiting(1), at(3000)] * 25 + [size()]
        told = self.timed(calls)
        self.assertEqual(told[-5], [80] + list(range(1, 81)))
        self.assertEqual(told[-4][0], 80)
        self.assertEqual(told[-3], [0])
        self.assertEqual(told[-1], [6001, 6001 + 60 * 5999, 60, 80, 80])

    def test_thousands_of_pieces_against_the_plain_model(self):
        model = Model()
        calls = [put(0, [97 + k % 7 for k in range(2000)]), put(1000, [98 + k % 5 for k in range(1500)]),
                 comment(10, 3000), comment(900, 1100), bookmark(950, 3500, "long"), track(1), author(2)]
        for turn in range(12):
            calls += [move(turn * 100, turn * 100 + 700, 3400 - turn), author(3 + turn % 2), cut(turn, 100 + turn * 3),
                      put(1500, "xyz"), comment(turn * 200, turn * 200 + 500)]
        calls += [accept(3), reject(5), reject(8), text(0), text(1), text(2), size(), bookmarks(), list_of(0)]
        calls += [look(c) for c in range(1, 15) for look in (state, spots, thread)]
        self.assertEqual(self.timed(calls), [model.do(call) for call in calls])


if __name__ == "__main__":
    unittest.main()
