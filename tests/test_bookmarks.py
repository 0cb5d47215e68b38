"""Promises 16 to 18 and 25: bookmark, unmark, goto, bookmarks; and when a bookmark is gone."""

import unittest

from tests.helper import (LEAST, MOST, accept, at, author, bookmark, bookmarks, check_refused, codes, comment, cut, drop,
                          goto, last_told, move, put, reject, row_after, size, told_by, track, unmark, with_count)

ABCDEF = [put(0, "abcdef")]
NO_NAMES = ([], [97] * 21, [97] * 2000, [96], [123], [65], [32], [10], [97, 96], [123, 97], [-97], [LEAST], [MOST],
            [97] * 19 + [MOST])


def told_bookmarks(*marks):
    """What bookmarks answers for these: a name and two numbers each."""
    told = [len(marks)]
    for name, begin, end in marks:
        told += with_count(codes(name)) + [begin, end]
    return told


class BookmarkTest(unittest.TestCase):
    def test_is_laid(self):
        calls = ABCDEF + [bookmark(1, 3, "one"), bookmark(2, 7, "two"), bookmark(0, 1, "three")]
        self.assertEqual(told_by(*calls)[1:], [[1], [2], [3]])
        self.assertEqual(row_after(*calls), "a#three b#one c#one#two d#two e#two f#two $#two")

    def test_on_the_last_end(self):
        self.assertEqual(told_by(bookmark(0, 1, "end"), goto("end")), [[1], [0, 1]])
        self.assertEqual(told_by(*ABCDEF, bookmark(6, 7, "end"), goto("end"))[1:], [[1], [6, 7]])
        self.assertEqual(told_by(*ABCDEF, bookmark(0, 7, "all"), goto("all"))[1:], [[1], [0, 7]])

    def test_is_laid_on_pieces_that_are_not_shown_between(self):
        before = ABCDEF + [track(1), cut(0, 1), cut(1, 3), cut(2, 3)]
        self.assertEqual(row_after(*before, bookmark(0, 2, "z")), "a-1 b#z c-2#z d-2#z e#z f-3 $")
        self.assertEqual(row_after(*before, bookmark(0, 1, "z")), "a-1 b#z c-2 d-2 e f-3 $")
        self.assertEqual(row_after(*before, bookmark(1, 3, "z")), "a-1 b c-2 d-2 e#z f-3#z $#z")

    def test_several_on_the_same_places(self):
        calls = ABCDEF + [bookmark(1, 3, "b"), bookmark(1, 3, "a"), bookmark(1, 3, "ab")]
        self.assertEqual(last_told(*calls), [3])
        self.assertEqual(last_told(*calls, bookmarks()), told_bookmarks(("b", 1, 3), ("a", 1, 3), ("ab", 1, 3)))

    def test_comments_and_bookmarks_do_not_touch_each_other(self):
        before = ABCDEF + [comment(1, 3), bookmark(2, 4, "one")]
        self.assertEqual(row_after(*before), "a b*1 c*1#one d#one e f $")
        self.assertEqual(row_after(*before, unmark("one")), "a b*1 c*1 d e f $")
        self.assertEqual(row_after(*before, drop(1)), "a b c#one d#one e f $")

    def test_names(self):
        for name in ([97], [122], [97] * 20, codes("abcdefghijklmnopqrst"), codes("uvwxyz")):
            self.assertEqual(told_by(bookmark(0, 1, name), goto(name), bookmarks(), unmark(name)),
                             [[1], [0, 1], [1] + with_count(name) + [0, 1], [1]])
        for name in NO_NAMES:
            check_refused(self, ABCDEF, bookmark(0, 1, name), -2)
            check_refused(self, ABCDEF + [bookmark(0, 1, "one")], bookmark(0, 1, name), -2)

    def test_names_are_told_apart_to_their_last_letter(self):
        calls = [bookmark(0, 1, "a" * 20), bookmark(0, 1, "a" * 19), bookmark(0, 1, "a" * 19 + "b")]
        self.assertEqual(told_by(*calls), [[1], [2], [3]])

    def test_places_are_refused(self):
        for p, q in ((-1, 1), (0, 0), (3, 3), (3, 2), (0, 8), (7, 8), (LEAST, MOST), (0, MOST), (LEAST, 1)):
            check_refused(self, ABCDEF, bookmark(p, q, "one"), -1)
        check_refused(self, ABCDEF + [track(1), cut(0, 4)], bookmark(0, 4, "one"), -1)

    def test_a_name_that_is_there_is_refused(self):
        before = ABCDEF + [bookmark(0, 2, "one"), bookmark(3, 4, "two")]
        for name in ("one", "two"):
            check_refused(self, before, bookmark(4, 5, name), -5)
        # Also while no shown piece carries it.
        check_refused(self, before + [track(1), cut(0, 2)], bookmark(1, 2, "one"), -5)

    def test_order_of_refusals(self):
        before = ABCDEF + [bookmark(0, 2, "one")]
        check_refused(self, before, bookmark(0, 8, []), -1)
        check_refused(self, before, bookmark(0, 8, "one"), -1)
        check_refused(self, before, bookmark(0, 1, "One"), -2)

    def test_any_author_any_time(self):
        self.assertEqual(told_by(bookmark(0, 1, "one"), author(2), goto("one"), unmark("one"))[2:], [[0, 1], [1]])


class UnmarkTest(unittest.TestCase):
    def test_is_lifted(self):
        before = ABCDEF + [bookmark(1, 4, "one"), bookmark(2, 5, "two")]
        self.assertEqual(last_told(*before, unmark("one")), [3])
        self.assertEqual(row_after(*before, unmark("one")), "a b c#two d#two e#two f $")
        self.assertEqual(last_told(*before, unmark("one"), bookmarks()), told_bookmarks(("two", 2, 5)))
        self.assertEqual(last_told(*before, unmark("one"), unmark("two"), size()), [7, 7, 0, 0, 0])

    def test_counts_pieces_that_are_not_shown(self):
        before = ABCDEF + [bookmark(1, 4, "one"), track(1)]
        self.assertEqual(last_told(*before, cut(2, 3), unmark("one")), [3])
        self.assertEqual(last_told(*before, cut(1, 4), unmark("one")), [3])
        self.assertEqual(last_told(*before, move(1, 4, 0), unmark("one")), [6])
        self.assertEqual(row_after(*before, cut(1, 4), unmark("one")), "a b-1 c-1 d-1 e f $")

    def test_its_name_is_free_then(self):
        before = ABCDEF + [bookmark(1, 4, "one"), bookmark(2, 5, "two"), unmark("one")]
        self.assertEqual(last_told(*before, bookmark(0, 1, "one")), [2])
        self.assertEqual(last_told(*before, bookmark(0, 1, "one"), bookmarks()),
                         told_bookmarks(("two", 2, 5), ("one", 0, 1)))

    def test_refused(self):
        before = ABCDEF + [bookmark(1, 4, "one")]
        for name in ["on", "ones", "two", "One"] + list(NO_NAMES):
            check_refused(self, before, unmark(name), -4)
            check_refused(self, [], unmark(name), -4)
        check_refused(self, before + [unmark("one")], unmark("one"), -4)


class GotoTest(unittest.TestCase):
    def test_first_place_and_behind_the_last(self):
        before = ABCDEF + [bookmark(1, 4, "one"), bookmark(3, 4, "two")]
        self.assertEqual(last_told(*before, goto("one")), [1, 4])
        self.assertEqual(last_told(*before, goto("two")), [3, 4])
        self.assertEqual(last_told(*before, put(0, "xy"), goto("one")), [3, 6])
        self.assertEqual(last_told(*before, put(2, "xy"), goto("one")), [1, 6])

    def test_passes_over_pieces_that_are_not_shown(self):
        before = ABCDEF + [bookmark(1, 5, "one"), track(1)]
        self.assertEqual(last_told(*before, cut(1, 2), goto("one")), [1, 4])
        self.assertEqual(last_told(*before, cut(4, 5), goto("one")), [1, 4])
        self.assertEqual(last_told(*before, cut(2, 4), goto("one")), [1, 3])
        self.assertEqual(last_told(*before, cut(0, 1), goto("one")), [0, 4])

    def test_pieces_in_the_midst_that_do_not_carry_it(self):
        before = ABCDEF + [bookmark(1, 4, "one")]
        self.assertEqual(row_after(*before, move(0, 1, 2)), "b#one a c#one d#one e f $")
        self.assertEqual(last_told(*before, move(0, 1, 2), goto("one")), [0, 4])
        self.assertEqual(row_after(*before, move(1, 2, 6)), "a c#one d#one e f b#one $")
        self.assertEqual(last_told(*before, move(1, 2, 6), goto("one")), [1, 6])
        self.assertEqual(last_told(*before, move(1, 2, 6), bookmarks()), told_bookmarks(("one", 1, 6)))

    def test_no_shown_piece_carries_it(self):
        before = ABCDEF + [bookmark(1, 3, "one"), track(1), cut(0, 4)]
        check_refused(self, before, goto("one"), -7)
        self.assertEqual(last_told(*before, bookmarks()), told_bookmarks(("one", -1, -1)))
        self.assertEqual(last_told(*before, reject(1), goto("one")), [1, 3])

    def test_refused(self):
        before = ABCDEF + [bookmark(1, 4, "one")]
        for name in ["on", "ones", "two", "One"] + list(NO_NAMES):
            check_refused(self, before, goto(name), -4)
        check_refused(self, before + [unmark("one")], goto("one"), -4)


class BookmarksTest(unittest.TestCase):
    def test_none(self):
        self.assertEqual(last_told(bookmarks()), [0])

    def test_in_the_order_in_which_they_were_made(self):
        calls = ABCDEF + [bookmark(4, 6, "z"), bookmark(0, 1, "m"), bookmark(2, 7, "a")]
        self.assertEqual(last_told(*calls, bookmarks()), [3, 1, 122, 4, 6, 1, 109, 0, 1, 1, 97, 2, 7])
        self.assertEqual(last_told(*calls, move(4, 6, 0), bookmarks()),
                         told_bookmarks(("z", 0, 2), ("m", 2, 3), ("a", 0, 7)))

    def test_with_one_that_is_not_shown(self):
        calls = ABCDEF + [bookmark(4, 6, "z"), bookmark(0, 2, "m"), bookmark(0, 1, "a"), track(1), cut(0, 1)]
        self.assertEqual(last_told(*calls, bookmarks()), told_bookmarks(("z", 3, 5), ("m", 0, 1), ("a", -1, -1)))


class GoneTest(unittest.TestCase):
    """A bookmark that no piece carries any longer is gone, and its name is free again."""

    def check_gone(self, *calls):
        """Behind these calls "one" is gone and "two", which was made behind it, is there."""
        self.assertEqual(last_told(*calls, size())[4], 1)
        check_refused(self, list(calls), goto("one"), -4)
        check_refused(self, list(calls), unmark("one"), -4)
        self.assertEqual(last_told(*calls, bookmarks())[:5], [1, 3] + codes("two"))
        again = list(calls) + [bookmark(0, 1, "one")]
        self.assertEqual(last_told(*again), [2])
        self.assertEqual(last_told(*again, goto("one")), [0, 1])
        ends = last_told(*calls, goto("two"))
        self.assertEqual(last_told(*again, bookmarks()), told_bookmarks(("two", *ends), ("one", 0, 1)))
        # At one piece, too, the one made again is told behind the other.
        last = last_told(*calls, goto("two"))[1] - 1
        self.assertEqual(last_told(*again, unmark("one"), bookmark(last, last + 1, "one"), at(last)),
                         [0, 2] + with_count(codes("two")) + with_count(codes("one")))

    def test_by_a_cut_with_tracking_off(self):
        self.check_gone(*ABCDEF, bookmark(1, 3, "one"), bookmark(1, 5, "two"), cut(1, 3))
        self.check_gone(*ABCDEF, bookmark(1, 3, "one"), bookmark(1, 5, "two"), cut(2, 3), cut(1, 2))

    def test_by_a_cut_of_own_pieces(self):
        self.check_gone(track(1), put(0, "abcdef"), bookmark(1, 3, "one"), bookmark(1, 5, "two"), cut(0, 3))

    def test_by_accept(self):
        before = ABCDEF + [bookmark(1, 3, "one"), bookmark(1, 5, "two"), track(1), cut(1, 3)]
        self.check_gone(*before, accept(1))
        self.check_gone(*before, accept(0))

    def test_by_reject(self):
        before = ABCDEF + [track(1), put(2, "xy"), bookmark(2, 4, "one"), bookmark(3, 5, "two")]
        self.check_gone(*before, reject(1))
        self.check_gone(*before, reject(0))
        self.check_gone(*before, author(2), cut(2, 4), reject(1))

    def test_not_while_a_piece_carries_it(self):
        before = ABCDEF + [bookmark(1, 3, "one")]
        self.assertEqual(last_told(*before, cut(1, 2), goto("one")), [1, 2])
        self.assertEqual(last_told(*before, track(1), cut(1, 3), size()), [5, 7, 1, 0, 1])
        self.assertEqual(last_told(*before, track(1), cut(2, 3), accept(1), goto("one")), [1, 2])

    def test_not_by_a_move(self):
        # What comes over carries what it carried, so no move takes the last piece of a bookmark away.
        before = ABCDEF + [bookmark(1, 3, "one")]
        self.assertEqual(last_told(*before, move(1, 3, 6), goto("one")), [4, 6])
        self.assertEqual(last_told(*before, track(1), move(1, 3, 6), goto("one")), [4, 6])
        own = [track(1), put(0, "abcdef"), bookmark(1, 3, "one")]
        self.assertEqual(last_told(*own, move(1, 3, 6), goto("one")), [4, 6])

    def test_by_what_comes_behind_a_move(self):
        # The copy goes by reject and the piece itself by a cut; or the piece by accept and the copy by a cut.
        before = ABCDEF + [bookmark(1, 3, "one"), bookmark(1, 5, "two"), track(1), move(1, 3, 6)]
        self.check_gone(*before, reject(1), track(0), cut(1, 3))
        self.check_gone(*before, accept(1), track(0), cut(4, 6))
        self.check_gone(*before, cut(4, 6), accept(1))

    def test_the_number_of_bookmarks_falls(self):
        calls = ABCDEF + [bookmark(0, 1, "a"), bookmark(1, 2, "b"), bookmark(0, 2, "c"), bookmark(4, 7, "d")]
        self.assertEqual(last_told(*calls, cut(0, 2), size()), [5, 5, 0, 0, 1])
        self.assertEqual(last_told(*calls, cut(0, 2), bookmark(0, 1, "c")), [2])
        self.assertEqual(last_told(*calls, cut(0, 1), size()), [6, 6, 0, 0, 3])

    def test_one_made_again_is_another(self):
        # b was gone before it was made again, so the new one is not on the pieces of the old one.
        calls = ABCDEF + [bookmark(1, 3, "b"), cut(1, 3), bookmark(0, 1, "b")]
        self.assertEqual(row_after(*calls), "a#b d e f $")
        self.assertEqual(last_told(*calls, unmark("b")), [1])


if __name__ == "__main__":
    unittest.main()
