"""Promises 1 to 3: author, clock, track."""

import unittest

from tests.helper import (LEAST, MOST, at, author, bookmarks, check_refused, clock, comment, cut, last_told, list_of,
                          put, reply, row_after, sheet_after, size, text, told_by, track)


class NewSheetTest(unittest.TestCase):
    def test_begins_with_the_last_end_alone(self):
        sheet = sheet_after()
        self.assertEqual(row_after(), "$")
        self.assertEqual((sheet.author, sheet.time, sheet.tracking), (1, 0, False))
        self.assertEqual((sheet.change_authors, sheet.comments, sheet.comments_made), ([], {}, 0))
        self.assertEqual(told_by(size(), text(0), text(1), text(2), list_of(0), bookmarks(), at(0)),
                         [[1, 1, 0, 0, 0], [1, 10, 0, 0, 0, 0], [1, 10], [1, 10], [0], [0], [0, 0]])


class AuthorTest(unittest.TestCase):
    def test_from_1_to_99(self):
        for a in (1, 2, 50, 99):
            self.assertEqual(told_by(author(a)), [[0]])
            self.assertEqual(sheet_after(author(a)).author, a)

    def test_writes_comments_and_replies(self):
        sheet = sheet_after(author(7), comment(0, 1), author(99), reply(1))
        self.assertEqual(sheet.comments[1].author, 7)
        self.assertEqual(sheet.comments[1].replies[0][0], 99)

    def test_owns_its_changes(self):
        before = [author(3), track(1), put(0, "ab")]
        self.assertEqual(last_told(*before, cut(0, 1)), [0])
        self.assertEqual(last_told(*before, author(4), cut(0, 1)), [2])
        self.assertEqual(sheet_after(*before, author(4), cut(0, 1)).change_authors, [3, 4])

    def test_refused(self):
        for a in (0, -1, 100, LEAST, MOST):
            check_refused(self, [author(5)], author(a), -2)


class ClockTest(unittest.TestCase):
    def test_goes_on_or_stands(self):
        self.assertEqual(told_by(clock(0), clock(5), clock(5), clock(MOST)), [[0], [0], [0], [0]])
        self.assertEqual(sheet_after(clock(5), clock(MOST)).time, MOST)

    def test_stamps_comments_and_replies(self):
        sheet = sheet_after(clock(4), comment(0, 1), clock(9), reply(1))
        self.assertEqual(sheet.comments[1].time, 4)
        self.assertEqual(sheet.comments[1].replies[0][1], 9)

    def test_below_0_is_refused(self):
        for t in (-1, LEAST):
            check_refused(self, [], clock(t), -2)

    def test_backward_is_refused(self):
        check_refused(self, [clock(5)], clock(4), -3)
        check_refused(self, [clock(5)], clock(0), -3)
        check_refused(self, [clock(MOST)], clock(MOST - 1), -3)

    def test_below_0_is_looked_at_first(self):
        check_refused(self, [clock(5)], clock(-1), -2)


class TrackTest(unittest.TestCase):
    def test_on_and_off(self):
        self.assertEqual(told_by(track(1), track(1), track(0), track(0)), [[0]] * 4)
        self.assertEqual(row_after(put(0, "a"), track(1), put(1, "b"), track(0), put(2, "c")), "a b+1 c $")

    def test_refused(self):
        for on in (-1, 2, LEAST, MOST):
            check_refused(self, [], track(on), -2)
            check_refused(self, [track(1)], track(on), -2)


if __name__ == "__main__":
    unittest.main()
