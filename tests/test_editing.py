"""Promises 4 to 7: put, cut, move, and which change is entered."""

import unittest

from tests.helper import (LEAST, MOST, accept, author, bookmark, check_refused, comment, cut, last_told, move, put,
                          row_after, sheet_after, size, text, told_by, track)

# author 1 has "abcdef" in the text without a change, tracking is on, and author 2 writes
ABCDEF = [put(0, "abcdef"), track(1), author(2)]


class EnteredTest(unittest.TestCase):
    def test_nothing_is_entered_with_tracking_off(self):
        self.assertEqual(told_by(put(0, "abc"), cut(0, 1), move(0, 1, 2)), [[0], [0], [0]])
        self.assertEqual(sheet_after(put(0, "abc"), cut(0, 1), move(0, 1, 2)).change_authors, [])

    def test_changes_are_numbered_in_their_order(self):
        calls = [put(0, "x"), author(3), cut(1, 2), author(4), move(1, 2, 4)]
        self.assertEqual(told_by(*ABCDEF, *calls)[3:], [[1], [0], [2], [0], [3]])
        self.assertEqual(sheet_after(*ABCDEF, *calls).change_authors, [2, 3, 4])

    def test_own_pieces_alone_enter_nothing(self):
        before = ABCDEF + [put(0, "xyz")]
        self.assertEqual(last_told(*before, cut(0, 2)), [0])
        self.assertEqual(last_told(*before, move(0, 2, 5)), [0])
        self.assertEqual(last_told(*before, cut(0, 2), put(0, "w")), [2])

    def test_own_pieces_alone_are_told_to_enter_nothing(self):
        before = ABCDEF + [put(0, "xyz")]
        for call in (cut(0, 2), move(0, 2, 5)):
            self.assertEqual(last_told(*before, call, size())[2], 1)
        self.assertEqual(last_told(*before, move(0, 2, 5), text(1)), [10, 122, 97, 98, 120, 121, 99, 100, 101, 102, 10])

    def test_a_put_with_tracking_on_always_enters_one(self):
        self.assertEqual(told_by(track(1), put(0, "x"), put(0, "x"), size())[1:], [[1], [2], [3, 3, 2, 0, 0]])

    def test_one_other_piece_is_enough(self):
        before = ABCDEF + [put(0, "xyz")]
        self.assertEqual(last_told(*before, cut(0, 4)), [2])
        self.assertEqual(last_told(*before, move(2, 4, 0)), [2])

    def test_a_change_stays_entered_when_no_piece_bears_it(self):
        calls = [put(0, "x"), cut(0, 1), put(0, "y")]
        self.assertEqual(told_by(*ABCDEF, *calls)[3:], [[1], [0], [2]])


class PutTest(unittest.TestCase):
    def test_at_the_ends(self):
        self.assertEqual(row_after(put(0, "ad"), put(1, "bc"), put(4, "e"), put(0, "z")), "z a b c d e $")

    def test_every_sign(self):
        signs = [10] + list(range(32, 127))
        sheet = sheet_after(put(0, signs))
        self.assertEqual(sum([stretch.signs for stretch in sheet.row], []), signs + [10])

    def test_two_thousand_signs(self):
        self.assertEqual(last_told(put(0, [97] * 2000), cut(0, 2000)), [0])
        self.assertEqual(last_told(put(0, [97] * 2000), cut(0, 2001)), [-1])

    def test_stands_behind_pieces_that_are_not_shown(self):
        self.assertEqual(row_after(*ABCDEF, cut(1, 3), put(1, "xy")), "a b-1 c-1 x+2 y+2 d e f $")
        self.assertEqual(row_after(*ABCDEF, cut(0, 6), put(0, "x")), "a-1 b-1 c-1 d-1 e-1 f-1 x+2 $")

    def test_tracking_gives_the_insertion(self):
        self.assertEqual(row_after(put(0, "a"), track(1), put(0, "b"), put(1, "c")), "b+1 c+2 a $")

    def test_carries_what_both_neighbours_carry(self):
        before = [put(0, "abcd"), comment(0, 3), comment(1, 4)]
        self.assertEqual(row_after(*before, put(0, "x")), "x a*1 b*1*2 c*1*2 d*2 $")
        self.assertEqual(row_after(*before, put(1, "x")), "a*1 x*1 b*1*2 c*1*2 d*2 $")
        self.assertEqual(row_after(*before, put(2, "xy")), "a*1 b*1*2 x*1*2 y*1*2 c*1*2 d*2 $")
        self.assertEqual(row_after(*before, put(3, "x")), "a*1 b*1*2 c*1*2 x*2 d*2 $")
        self.assertEqual(row_after(*before, put(4, "x")), "a*1 b*1*2 c*1*2 d*2 x $")

    def test_carries_nothing_at_place_0(self):
        self.assertEqual(row_after(comment(0, 1), put(0, "x")), "x $*1")

    def test_carries_by_shown_neighbours_alone(self):
        # b is not shown: a and c decide, and c does not carry the comment.
        self.assertEqual(row_after(put(0, "abc"), comment(0, 2), track(1), cut(1, 2), put(1, "x")),
                         "a*1 b-1*1 x+2 c $")
        self.assertEqual(row_after(put(0, "abc"), comment(0, 3), track(1), cut(1, 2), put(1, "x")),
                         "a*1 b-1*1 x+2*1 c*1 $")

    def test_carries_bookmarks_too(self):
        before = [put(0, "abc"), bookmark(0, 2, "one"), bookmark(1, 3, "two"), bookmark(0, 3, "all")]
        self.assertEqual(row_after(*before), "a#all#one b#all#one#two c#all#two $")
        self.assertEqual(row_after(*before, put(0, "x")), "x a#all#one b#all#one#two c#all#two $")
        self.assertEqual(row_after(*before, put(1, "xy")), "a#all#one x#all#one y#all#one b#all#one#two c#all#two $")
        self.assertEqual(row_after(*before, put(2, "x")), "a#all#one b#all#one#two x#all#two c#all#two $")
        self.assertEqual(row_after(*before, put(3, "x")), "a#all#one b#all#one#two c#all#two x $")
        self.assertEqual(row_after(*before, track(1), put(1, "x")), "a#all#one x+1#all#one b#all#one#two c#all#two $")

    def test_bookmarks_are_carried_by_shown_neighbours_alone(self):
        before = [put(0, "abc"), bookmark(0, 2, "one"), bookmark(0, 3, "all"), track(1), cut(1, 2)]
        self.assertEqual(row_after(*before, put(1, "x")), "a#all#one b-1#all#one x+2#all c#all $")

    def test_carries_no_bookmark_at_place_0(self):
        self.assertEqual(row_after(bookmark(0, 1, "end"), put(0, "x")), "x $#end")

    def test_place_is_refused(self):
        for p in (-1, 7, 8, LEAST, MOST):
            check_refused(self, ABCDEF, put(p, "x"), -1)
        check_refused(self, [], put(1, "x"), -1)

    def test_places_are_those_of_shown_pieces(self):
        check_refused(self, ABCDEF + [cut(0, 5)], put(2, "x"), -1)
        self.assertEqual(last_told(*ABCDEF, cut(0, 5), put(1, "x")), [2])

    def test_signs_are_refused(self):
        for signs in ([], [9], [11], [31], [127], [0], [97, 127], [31, 97], [LEAST], [MOST], [97] * 1999 + [-97]):
            check_refused(self, ABCDEF, put(0, signs), -2)

    def test_place_is_looked_at_first(self):
        check_refused(self, ABCDEF, put(7, []), -1)
        check_refused(self, ABCDEF, put(-1, [9]), -1)


class CutTest(unittest.TestCase):
    def test_with_tracking_off_pieces_go(self):
        self.assertEqual(row_after(put(0, "abcd"), cut(1, 3)), "a d $")
        self.assertEqual(row_after(put(0, "abcd"), cut(0, 4)), "$")

    def test_with_tracking_off_the_pieces_of_others_go(self):
        self.assertEqual(row_after(*ABCDEF, put(3, "x"), author(3), track(0), cut(2, 5)), "a b e f $")

    def test_tracked_pieces_stay_as_deleted(self):
        self.assertEqual(row_after(*ABCDEF, cut(1, 3)), "a b-1 c-1 d e f $")
        self.assertEqual(row_after(*ABCDEF, cut(0, 6)), "a-1 b-1 c-1 d-1 e-1 f-1 $")

    def test_own_pieces_go(self):
        self.assertEqual(row_after(*ABCDEF, put(1, "xy"), cut(0, 3)), "a-2 b c d e f $")

    def test_pieces_of_others_stay(self):
        self.assertEqual(row_after(*ABCDEF, put(1, "xy"), author(3), cut(0, 3)), "a-2 x+1-2 y+1-2 b c d e f $")

    def test_the_last_insertion_decides_what_is_own(self):
        # x is put by 2 and moved by 3, so it is own to 3 and no longer to 2.
        before = ABCDEF + [put(0, "x"), author(3), move(0, 1, 7)]
        row = "x+1-2 a b c d e f x+1+2 $"
        self.assertEqual(row_after(*before), row)
        self.assertEqual(row_after(*before, cut(6, 7)), "x+1-2 a b c d e f $")
        self.assertEqual(row_after(*before, author(2), cut(6, 7)), "x+1-2 a b c d e f x+1+2-3 $")

    def test_accepted_pieces_are_no_longer_own(self):
        self.assertEqual(row_after(*ABCDEF, put(0, "x"), accept(1), cut(0, 1)), "x-2 a b c d e f $")

    def test_pieces_that_are_not_shown_between_stay_as_they_are(self):
        self.assertEqual(row_after(*ABCDEF, cut(2, 3), cut(1, 3)), "a b-2 c-1 d-2 e f $")
        self.assertEqual(row_after(*ABCDEF, cut(2, 3), track(0), cut(1, 3)), "a c-1 e f $")

    def test_deleted_pieces_still_carry(self):
        self.assertEqual(row_after(put(0, "abc"), comment(1, 3), track(1), cut(0, 2)), "a-1 b-1*1 c*1 $")

    def test_refused(self):
        for p, q in ((-1, 2), (2, 2), (3, 2), (0, 7), (6, 7), (7, 8), (LEAST, MOST), (0, MOST), (LEAST, 1)):
            check_refused(self, ABCDEF, cut(p, q), -1)

    def test_the_last_end_is_never_cut(self):
        check_refused(self, [], cut(0, 1), -1)
        check_refused(self, ABCDEF + [cut(0, 6)], cut(0, 1), -1)


class MoveTest(unittest.TestCase):
    def test_with_tracking_off_to_either_side(self):
        self.assertEqual(row_after(put(0, "abcdef"), move(1, 3, 5)), "a d e b c f $")
        self.assertEqual(row_after(put(0, "abcdef"), move(1, 3, 6)), "a d e f b c $")
        self.assertEqual(row_after(put(0, "abcdef"), move(3, 5, 1)), "a d e b c f $")
        self.assertEqual(row_after(put(0, "abcdef"), move(3, 5, 0)), "d e a b c f $")
        self.assertEqual(row_after(put(0, "abcdef"), move(5, 6, 4)), "a b c d f e $")

    def test_tracked_copies_come_over(self):
        self.assertEqual(row_after(*ABCDEF, move(1, 3, 5)), "a b-1 c-1 d e b+1 c+1 f $")
        self.assertEqual(row_after(*ABCDEF, move(3, 5, 1)), "a d+1 e+1 b c d-1 e-1 f $")
        self.assertEqual(row_after(*ABCDEF, move(0, 5, 6)), "a-1 b-1 c-1 d-1 e-1 f a+1 b+1 c+1 d+1 e+1 $")

    def test_own_pieces_come_over_themselves(self):
        self.assertEqual(row_after(*ABCDEF, put(1, "x"), move(0, 3, 5)), "a-2 b-2 c d a+2 x+1 b+2 e f $")

    def test_pieces_of_others_are_copied_with_their_insertions(self):
        self.assertEqual(row_after(*ABCDEF, put(1, "x"), author(3), move(1, 2, 3)), "a x+1-2 b x+1+2 c d e f $")

    def test_with_tracking_off_pieces_keep_their_insertions(self):
        self.assertEqual(row_after(*ABCDEF, put(1, "x"), author(3), track(0), move(0, 2, 4)), "b c a x+1 d e f $")

    def test_pieces_that_are_not_shown_between_stay(self):
        self.assertEqual(row_after(*ABCDEF, cut(1, 2), move(0, 2, 4)), "a-2 b-1 c-2 d e a+2 c+2 f $")
        self.assertEqual(row_after(*ABCDEF, cut(1, 2), track(0), move(0, 2, 4)), "b-1 d e a c f $")

    def test_stands_behind_pieces_that_are_not_shown(self):
        self.assertEqual(row_after(*ABCDEF, cut(3, 5), move(0, 1, 3)), "a-2 b c d-1 e-1 a+2 f $")
        self.assertEqual(row_after(*ABCDEF, cut(0, 2), move(2, 3, 0)), "a-1 b-1 e+2 c d e-2 f $")

    def test_carries_what_it_carried(self):
        before = [put(0, "abcd"), comment(0, 1), comment(2, 4), track(1)]
        self.assertEqual(row_after(*before, move(0, 1, 3)), "a-1*1 b c*2 a+1*1 d*2 $")
        self.assertEqual(row_after(*before, track(0), move(0, 1, 3)), "b c*2 a*1 d*2 $")

    def test_carries_bookmarks_too(self):
        before = [put(0, "abcd"), bookmark(0, 1, "one"), bookmark(2, 4, "two")]
        self.assertEqual(row_after(*before, move(0, 1, 3)), "b c#two a#one d#two $")
        self.assertEqual(row_after(*before, move(1, 2, 3)), "a#one c#two b d#two $")
        self.assertEqual(row_after(*before, track(1), move(0, 1, 3)), "a-1#one b c#two a+1#one d#two $")
        self.assertEqual(row_after(*before, track(1), move(2, 3, 0)), "c+1#two a#one b c-1#two d#two $")

    def test_the_copy_keeps_its_bookmark_when_the_piece_goes(self):
        before = [put(0, "abcd"), bookmark(0, 1, "one"), track(1), move(0, 1, 3)]
        self.assertEqual(row_after(*before, accept(1)), "b c a#one d $")

    def test_places_are_refused(self):
        for p, q, r in ((-1, 1, 3), (2, 2, 4), (3, 2, 5), (0, 7, 3), (6, 7, 0), (0, 1, -1), (0, 1, 7),
                        (LEAST, 1, 3), (0, MOST, 3), (0, 1, LEAST), (0, 1, MOST)):
            check_refused(self, ABCDEF, move(p, q, r), -1)
        check_refused(self, [], move(0, 1, 0), -1)

    def test_into_itself_is_refused(self):
        for r in (2, 3, 4):
            check_refused(self, ABCDEF, move(2, 4, r), -3)
        check_refused(self, ABCDEF, move(0, 6, 6), -3)
        check_refused(self, ABCDEF, move(0, 6, 0), -3)

    def test_just_beside_itself_is_not_refused(self):
        self.assertEqual(last_told(*ABCDEF, move(2, 4, 1)), [1])
        self.assertEqual(last_told(*ABCDEF, move(2, 4, 5)), [1])

    def test_places_are_looked_at_first(self):
        check_refused(self, ABCDEF, move(2, 7, 3), -1)
        check_refused(self, ABCDEF, move(-1, 4, 2), -1)
        check_refused(self, ABCDEF, move(6, 7, 7), -1)


if __name__ == "__main__":
    unittest.main()
