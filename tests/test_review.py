"""Promises 8 and 9: accept and reject."""

import unittest

from tests.helper import (LEAST, MOST, accept, author, check_refused, comment, cut, drop, last_told, move, put, reject,
                          row_after, sheet_after, told_by, track)

# author 2 puts x (change 1), author 3 cuts b and c (2), author 4 moves e before a (3)
BEFORE = [put(0, "abcdef"), track(1), author(2), put(3, "x"), author(3), cut(1, 3), author(4), move(3, 4, 0)]
ROW = "e+3 a b-2 c-2 x+1 d e-3 f $"


class AcceptTest(unittest.TestCase):
    def test_the_row_before(self):
        self.assertEqual(row_after(*BEFORE), ROW)

    def test_a_put(self):
        self.assertEqual(last_told(*BEFORE, accept(1)), [0])
        self.assertEqual(row_after(*BEFORE, accept(1)), "e+3 a b-2 c-2 x d e-3 f $")

    def test_a_cut(self):
        self.assertEqual(last_told(*BEFORE, accept(2)), [2])
        self.assertEqual(row_after(*BEFORE, accept(2)), "e+3 a x+1 d e-3 f $")

    def test_a_move(self):
        self.assertEqual(last_told(*BEFORE, accept(3)), [1])
        self.assertEqual(row_after(*BEFORE, accept(3)), "e a b-2 c-2 x+1 d f $")

    def test_all(self):
        self.assertEqual(last_told(*BEFORE, accept(0)), [3])
        self.assertEqual(row_after(*BEFORE, accept(0)), "e a x d f $")

    def test_all_of_no_changes(self):
        self.assertEqual(last_told(accept(0)), [0])
        self.assertEqual(row_after(put(0, "ab"), accept(0)), "a b $")

    def test_one_of_several_insertions(self):
        before = [track(1), put(0, "ab"), author(2), move(0, 1, 2)]
        self.assertEqual(row_after(*before), "a+1-2 b+1 a+1+2 $")
        self.assertEqual(row_after(*before, accept(1)), "a-2 b a+2 $")
        self.assertEqual(row_after(*before, accept(2)), "b+1 a+1 $")

    def test_a_change_stays_entered(self):
        calls = [accept(2), accept(2), accept(0), accept(3), put(0, "y")]
        self.assertEqual(told_by(*BEFORE, *calls)[-5:], [[2], [0], [1], [0], [4]])
        self.assertEqual(sheet_after(*BEFORE, *calls).change_authors, [2, 3, 4, 4])

    def test_comments_go_with_their_pieces(self):
        before = [put(0, "abc"), comment(1, 2), track(1), cut(1, 2), accept(1)]
        self.assertEqual(row_after(*before), "a c $")
        self.assertEqual(last_told(*before, drop(1)), [0])

    def test_refused(self):
        for c in (-1, 4, LEAST, MOST):
            check_refused(self, BEFORE, accept(c), -4)
        check_refused(self, [], accept(1), -4)


class RejectTest(unittest.TestCase):
    def test_a_put(self):
        self.assertEqual(last_told(*BEFORE, reject(1)), [1])
        self.assertEqual(row_after(*BEFORE, reject(1)), "e+3 a b-2 c-2 d e-3 f $")

    def test_a_cut(self):
        self.assertEqual(last_told(*BEFORE, reject(2)), [0])
        self.assertEqual(row_after(*BEFORE, reject(2)), "e+3 a b c x+1 d e-3 f $")

    def test_a_move(self):
        self.assertEqual(last_told(*BEFORE, reject(3)), [1])
        self.assertEqual(row_after(*BEFORE, reject(3)), "a b-2 c-2 x+1 d e f $")

    def test_all(self):
        self.assertEqual(last_told(*BEFORE, reject(0)), [2])
        self.assertEqual(row_after(*BEFORE, reject(0)), "a b c d e f $")

    def test_all_of_no_changes(self):
        self.assertEqual(last_told(reject(0)), [0])
        self.assertEqual(row_after(put(0, "ab"), reject(0)), "a b $")

    def test_pieces_with_insertions_and_deletions(self):
        before = [track(1), put(0, "ab"), author(2), cut(0, 1)]
        self.assertEqual(row_after(*before), "a+1-2 b+1 $")
        self.assertEqual(row_after(*before, reject(2)), "a+1 b+1 $")
        self.assertEqual(row_after(*before, reject(1)), "$")
        self.assertEqual(last_told(*before, reject(1)), [2])
        self.assertEqual(last_told(*before, reject(0)), [2])
        self.assertEqual(last_told(*before, accept(0)), [1])
        self.assertEqual(row_after(*before, accept(1)), "a-2 b $")

    def test_one_of_several_insertions(self):
        before = [track(1), put(0, "ab"), author(2), move(0, 1, 2)]
        self.assertEqual(row_after(*before, reject(2)), "a+1 b+1 $")
        self.assertEqual(row_after(*before, reject(1)), "$")

    def test_a_change_stays_entered(self):
        calls = [reject(1), reject(1), reject(0), put(0, "y")]
        self.assertEqual(told_by(*BEFORE, *calls)[-4:], [[1], [0], [1], [4]])

    def test_comments_come_back_with_their_pieces(self):
        self.assertEqual(row_after(put(0, "abc"), comment(1, 2), track(1), cut(0, 2), reject(1)), "a b*1 c $")

    def test_the_example_of_the_document(self):
        calls = [put(0, "abcd"), comment(1, 3), track(1), author(2), put(2, "x"), put(1, "y"), cut(2, 3), put(2, "z")]
        self.assertEqual(told_by(*calls), [[0], [1], [0], [0], [1], [2], [3], [4]])
        self.assertEqual(row_after(*calls), "a y+2 b-3*1 z+4 x+1*1 c*1 d $")
        self.assertEqual(row_after(*calls, reject(3)), "a y+2 b*1 z+4 x+1*1 c*1 d $")

    def test_refused(self):
        for c in (-1, 4, LEAST, MOST):
            check_refused(self, BEFORE, reject(c), -4)
        check_refused(self, [], reject(1), -4)


if __name__ == "__main__":
    unittest.main()
