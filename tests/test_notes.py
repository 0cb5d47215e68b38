"""Promises 10 to 15: comment, reply, solve, drop, reanchor, rescue."""

import unittest

from tests.helper import (LEAST, MOST, accept, author, check_refused, clock, codes, comment, cut, drop, last_told, list_of,
                          move, put, reanchor, reject, reply, rescue, row_after, sheet_after, solve, spots, state,
                          thread, told_by, track)

ABCDEF = [put(0, "abcdef")]
NO_NOTE_TEXTS = ([], [32] * 201, [32] * 2000, [31], [127], [10], [97, 10], [LEAST], [MOST], [97] * 199 + [127])


def quote_of(c, *calls):
    return sheet_after(*calls).comments[c].quote


class CommentTest(unittest.TestCase):
    def test_is_numbered_and_laid(self):
        self.assertEqual(told_by(*ABCDEF, comment(1, 3), comment(2, 7), comment(0, 1)), [[0], [1], [2], [3]])
        self.assertEqual(row_after(*ABCDEF, comment(1, 3), comment(2, 7), comment(0, 1)),
                         "a*3 b*1 c*1*2 d*2 e*2 f*2 $*2")

    def test_keeps_what_it_is_told(self):
        note = sheet_after(*ABCDEF, author(8), clock(12), comment(1, 3, "why?")).comments[1]
        self.assertEqual((note.author, note.time, note.quote, note.text), (8, 12, codes("bc"), codes("why?")))
        self.assertEqual((note.replies, note.solved), ([], False))

    def test_on_the_last_end(self):
        self.assertEqual(last_told(comment(0, 1)), [1])
        self.assertEqual(row_after(comment(0, 1)), "$*1")
        self.assertEqual(quote_of(1, comment(0, 1)), [10])
        self.assertEqual(quote_of(1, *ABCDEF, comment(5, 7)), [102, 10])

    def test_is_laid_on_pieces_that_are_not_shown_between(self):
        before = ABCDEF + [track(1), cut(0, 1), cut(1, 3), cut(2, 3)]
        self.assertEqual(row_after(*before), "a-1 b c-2 d-2 e f-3 $")
        self.assertEqual(row_after(*before, comment(0, 2)), "a-1 b*1 c-2*1 d-2*1 e*1 f-3 $")
        self.assertEqual(row_after(*before, comment(0, 1)), "a-1 b*1 c-2 d-2 e f-3 $")
        self.assertEqual(row_after(*before, comment(1, 3)), "a-1 b c-2 d-2 e*1 f-3*1 $*1")

    def test_quotes_shown_pieces_alone(self):
        self.assertEqual(quote_of(1, *ABCDEF, track(1), cut(1, 3), comment(0, 3)), codes("ade"))

    def test_quotes_40_signs_at_most(self):
        signs = list(range(32, 92))
        for size in (1, 39, 40, 41, 60):
            self.assertEqual(quote_of(1, put(0, signs), comment(0, size)), signs[:size][:40])
        self.assertEqual(quote_of(1, put(0, signs), comment(5, 61)), signs[5:45])
        self.assertEqual(row_after(put(0, "a" * 60), comment(0, 60)), "a*1 " * 60 + "$")

    def test_the_quote_stays_when_the_text_changes(self):
        self.assertEqual(quote_of(1, *ABCDEF, comment(1, 3), cut(1, 2), put(1, "x")), codes("bc"))

    def test_note_texts(self):
        for text in ([32], [126], [97] * 200, list(range(32, 127))):
            self.assertEqual(last_told(comment(0, 1, text)), [1])
            self.assertEqual(sheet_after(comment(0, 1, text)).comments[1].text, text)
        for text in NO_NOTE_TEXTS:
            check_refused(self, ABCDEF, comment(0, 1, text), -2)

    def test_places_are_refused(self):
        for p, q in ((-1, 1), (0, 0), (3, 3), (3, 2), (0, 8), (7, 8), (LEAST, MOST), (0, MOST), (LEAST, 1)):
            check_refused(self, ABCDEF, comment(p, q), -1)
        check_refused(self, ABCDEF + [track(1), cut(0, 4)], comment(0, 4), -1)

    def test_places_are_looked_at_first(self):
        check_refused(self, ABCDEF, comment(0, 8, []), -1)

    def test_a_refused_one_takes_no_number(self):
        self.assertEqual(told_by(comment(0, 2), comment(0, 1, ""), comment(0, 1)), [[-1], [-2], [1]])


class ReplyTest(unittest.TestCase):
    def test_stands_behind_the_others(self):
        calls = [comment(0, 1), author(2), clock(3), reply(1, "one"), author(5), clock(8), reply(1, "two")]
        self.assertEqual(told_by(*calls), [[1], [0], [0], [1], [0], [0], [2]])
        self.assertEqual(sheet_after(*calls).comments[1].replies, [(2, 3, codes("one")), (5, 8, codes("two"))])

    def test_belongs_to_its_comment(self):
        calls = [comment(0, 1), comment(0, 1), reply(2), reply(2), reply(1)]
        self.assertEqual(told_by(*calls)[2:], [[1], [2], [1]])

    def test_to_an_orphan(self):
        self.assertEqual(last_told(*ABCDEF, comment(0, 2), cut(0, 2), reply(1)), [1])

    def test_note_texts(self):
        for text in ([32], [126], [97] * 200):
            self.assertEqual(last_told(comment(0, 1), reply(1, text)), [1])
        for text in NO_NOTE_TEXTS:
            check_refused(self, [comment(0, 1)], reply(1, text), -2)

    def test_unknown_comment_is_refused(self):
        for c in (0, -1, 2, LEAST, MOST):
            check_refused(self, [comment(0, 1)], reply(c), -4)
        check_refused(self, [comment(0, 1), drop(1)], reply(1), -4)

    def test_solved_comment_is_refused(self):
        check_refused(self, [comment(0, 1), solve(1, 1)], reply(1), -6)
        self.assertEqual(last_told(comment(0, 1), solve(1, 1), solve(1, 0), reply(1)), [1])

    def test_order_of_refusals(self):
        check_refused(self, [comment(0, 1), solve(1, 1)], reply(2, []), -4)
        check_refused(self, [comment(0, 1), solve(1, 1)], reply(1, []), -2)


class SolveTest(unittest.TestCase):
    def test_solved_and_open_again(self):
        self.assertEqual(told_by(comment(0, 1), solve(1, 1), solve(1, 0), solve(1, 1)), [[1], [0], [0], [0]])
        self.assertTrue(sheet_after(comment(0, 1), solve(1, 1)).comments[1].solved)
        self.assertFalse(sheet_after(comment(0, 1), solve(1, 1), solve(1, 0)).comments[1].solved)

    def test_anybody_may(self):
        self.assertEqual(last_told(comment(0, 1), author(2), solve(1, 1)), [0])

    def test_unknown_comment_is_refused(self):
        for c in (0, -1, 2, LEAST, MOST):
            check_refused(self, [comment(0, 1)], solve(c, 1), -4)
        check_refused(self, [comment(0, 1), drop(1)], solve(1, 1), -4)

    def test_on_is_refused(self):
        for on in (-1, 2, LEAST, MOST):
            check_refused(self, [comment(0, 1)], solve(1, on), -2)

    def test_already_so_is_refused(self):
        check_refused(self, [comment(0, 1)], solve(1, 0), -6)
        check_refused(self, [comment(0, 1), solve(1, 1)], solve(1, 1), -6)

    def test_order_of_refusals(self):
        check_refused(self, [comment(0, 1)], solve(2, 2), -4)
        check_refused(self, [comment(0, 1), solve(1, 1)], solve(1, 2), -2)


class DropTest(unittest.TestCase):
    def test_is_lifted(self):
        calls = ABCDEF + [comment(1, 4), comment(2, 5)]
        self.assertEqual(last_told(*calls, drop(1)), [3])
        self.assertEqual(row_after(*calls, drop(1)), "a b c*2 d*2 e*2 f $")
        self.assertEqual(list(sheet_after(*calls, drop(1)).comments), [2])

    def test_counts_pieces_that_are_not_shown(self):
        self.assertEqual(last_told(*ABCDEF, comment(1, 4), track(1), cut(2, 3), drop(1)), [3])
        self.assertEqual(last_told(*ABCDEF, comment(1, 4), track(1), cut(1, 4), drop(1)), [3])
        self.assertEqual(row_after(*ABCDEF, comment(1, 4), track(1), cut(1, 4), drop(1)), "a b-1 c-1 d-1 e f $")

    def test_of_an_orphan(self):
        self.assertEqual(last_told(*ABCDEF, comment(1, 4), cut(1, 4), drop(1)), [0])
        self.assertEqual(last_told(*ABCDEF, track(1), put(0, "x"), comment(0, 1), reject(1), drop(1)), [0])

    def test_its_number_is_never_used_again(self):
        calls = [comment(0, 1), comment(0, 1), drop(2), comment(0, 1), drop(1), drop(3), comment(0, 1)]
        self.assertEqual(told_by(*calls), [[1], [2], [1], [3], [1], [1], [4]])
        check_refused(self, calls, drop(2), -4)

    def test_unknown_comment_is_refused(self):
        for c in (0, -1, 2, LEAST, MOST):
            check_refused(self, [comment(0, 1)], drop(c), -4)

    def test_another_author_is_refused(self):
        check_refused(self, [comment(0, 1), author(2)], drop(1), -5)
        check_refused(self, [author(2), comment(0, 1), author(1)], drop(1), -5)
        self.assertEqual(last_told(author(2), comment(0, 1), author(1), author(2), drop(1)), [1])

    def test_a_solved_one(self):
        self.assertEqual(last_told(comment(0, 1), solve(1, 1), drop(1)), [1])


class ReanchorTest(unittest.TestCase):
    def test_is_lifted_and_laid_and_quoted_anew(self):
        calls = ABCDEF + [comment(0, 2), reanchor(1, 1, 4)]
        self.assertEqual(last_told(*calls), [3])
        self.assertEqual(row_after(*calls), "a b*1 c*1 d*1 e f $")
        self.assertEqual(quote_of(1, *calls), codes("bcd"))

    def test_keeps_all_else(self):
        note = sheet_after(*ABCDEF, clock(4), comment(0, 2, "hm"), reply(1), solve(1, 1), clock(9),
                           reanchor(1, 3, 4)).comments[1]
        self.assertEqual((note.author, note.time, note.text, note.solved), (1, 4, codes("hm"), True))
        self.assertEqual(note.replies, [(1, 4, codes("answer"))])

    def test_answers_shown_pieces_alone(self):
        calls = ABCDEF + [comment(5, 6), track(1), cut(1, 3), reanchor(1, 0, 2)]
        self.assertEqual(last_told(*calls), [2])
        self.assertEqual(row_after(*calls), "a*1 b-1*1 c-1*1 d*1 e f $")
        self.assertEqual(quote_of(1, *calls), codes("ad"))

    def test_lifts_from_pieces_that_are_not_shown(self):
        self.assertEqual(row_after(*ABCDEF, comment(0, 2), track(1), cut(0, 1), reanchor(1, 1, 2)),
                         "a-1 b c*1 d e f $")

    def test_to_the_last_end(self):
        self.assertEqual(last_told(*ABCDEF, comment(0, 2), reanchor(1, 6, 7)), [1])
        self.assertEqual(quote_of(1, *ABCDEF, comment(0, 2), reanchor(1, 6, 7)), [10])

    def test_an_orphan(self):
        calls = ABCDEF + [comment(0, 2), track(1), cut(0, 2), accept(0), reanchor(1, 0, 1)]
        self.assertEqual(last_told(*calls), [1])
        self.assertEqual(row_after(*calls), "c*1 d e f $")

    def test_quotes_40_signs_at_most(self):
        signs = list(range(32, 92))
        self.assertEqual(quote_of(1, put(0, signs), comment(0, 2), reanchor(1, 3, 60)), signs[3:43])

    def test_other_comments_stay(self):
        self.assertEqual(row_after(*ABCDEF, comment(0, 3), comment(0, 3), reanchor(1, 2, 4)),
                         "a*2 b*2 c*1*2 d*1 e f $")

    def test_refused(self):
        before = ABCDEF + [comment(0, 2)]
        for c in (0, -1, 2, LEAST, MOST):
            check_refused(self, before, reanchor(c, 0, 1), -4)
        check_refused(self, before + [drop(1)], reanchor(1, 0, 1), -4)
        check_refused(self, before + [author(2)], reanchor(1, 0, 1), -5)
        for p, q in ((-1, 1), (0, 0), (3, 2), (0, 8), (7, 8), (LEAST, MOST), (0, MOST), (LEAST, 1)):
            check_refused(self, before, reanchor(1, p, q), -1)

    def test_order_of_refusals(self):
        before = ABCDEF + [comment(0, 2), author(2)]
        check_refused(self, before, reanchor(2, 0, 8), -4)
        check_refused(self, before, reanchor(1, 0, 8), -5)


class RescueTest(unittest.TestCase):
    # "bc" is commented on and then goes for good.
    ORPHAN = ABCDEF + [comment(1, 3), cut(1, 3)]

    def test_is_laid_where_its_quote_stands(self):
        calls = self.ORPHAN + [put(2, "xbcy"), rescue(1)]
        self.assertEqual(last_told(*calls), [3, 5])
        self.assertEqual(row_after(*calls), "a d x b*1 c*1 y e f $")
        self.assertEqual(last_told(*calls, state(1)), [2, 2, 2, 1, 0])

    def test_at_place_0(self):
        self.assertEqual(last_told(*self.ORPHAN, put(0, "bc"), rescue(1)), [0, 2])

    def test_the_least_of_several_places(self):
        self.assertEqual(last_told(*self.ORPHAN, put(4, "bc"), put(1, "bbcc"), rescue(1)), [2, 4])
        self.assertEqual(row_after(*self.ORPHAN, put(4, "bc"), put(1, "bbcc"), rescue(1)),
                         "a b b*1 c*1 c d e f b c $")

    def test_places_that_overlap(self):
        before = [put(0, "xaabx"), comment(1, 4), cut(1, 4)]
        self.assertEqual(last_told(*before, put(1, "aaaab"), rescue(1)), [3, 6])
        before = [put(0, "xababx"), comment(1, 5), cut(1, 5)]
        self.assertEqual(last_told(*before, put(1, "aababab"), rescue(1)), [2, 6])

    def test_no_place(self):
        check_refused(self, self.ORPHAN, rescue(1), -8)
        check_refused(self, self.ORPHAN + [put(0, "b")], rescue(1), -8)
        check_refused(self, self.ORPHAN + [put(4, "b")], rescue(1), -8)
        check_refused(self, self.ORPHAN + [put(1, "cb")], rescue(1), -8)

    def test_a_text_shorter_than_the_quote(self):
        check_refused(self, ABCDEF + [comment(0, 6), cut(0, 6)], rescue(1), -8)

    def test_with_the_last_end_in_it(self):
        # The last end itself never goes, so such a quote stands on another 10 first.
        before = [put(0, "ab\nc"), comment(1, 3), cut(0, 4)]
        self.assertEqual(last_told(*before, put(0, "xb"), rescue(1)), [1, 3])
        self.assertEqual(row_after(*before, put(0, "xb"), rescue(1)), "x b*1 $*1")
        alone = [put(0, "\nab"), comment(0, 1), cut(0, 1)]
        self.assertEqual(last_told(*alone, rescue(1)), [2, 3])
        self.assertEqual(row_after(*alone, rescue(1)), "a b $*1")

    def test_the_whole_text(self):
        before = [put(0, "ab\nc"), comment(0, 3), cut(0, 4), put(0, "ab")]
        self.assertEqual(last_told(*before, rescue(1)), [0, 3])

    def test_a_quote_of_40_signs(self):
        signs = list(range(32, 92))
        for end in (40, 41, 60):
            before = [put(0, signs), comment(0, end), cut(0, 60)]
            self.assertEqual(last_told(*before, put(0, [97] + signs), rescue(1)), [1, 41])
            self.assertEqual(last_told(*before, put(0, [97] + signs), rescue(1), spots(1)), [1, 1, 41])
            self.assertEqual(last_told(*before, put(0, signs[:40]), rescue(1)), [0, 40])
            check_refused(self, before + [put(0, signs[:39] + [97])], rescue(1), -8)
            check_refused(self, before + [put(0, signs[1:])], rescue(1), -8)

    def test_looks_at_shown_pieces_alone(self):
        before = self.ORPHAN + [put(1, "bxc"), track(1)]
        calls = before + [cut(2, 3), rescue(1)]
        self.assertEqual(last_told(*calls), [1, 3])
        self.assertEqual(row_after(*calls), "a b*1 x-1*1 c*1 d e f $")
        self.assertEqual(last_told(*calls, state(1)), [2, 2, 3, 1, 0])
        check_refused(self, self.ORPHAN + [put(1, "bc"), track(1), cut(1, 2)], rescue(1), -8)

    def test_is_not_laid_beside_its_ends(self):
        calls = self.ORPHAN + [put(1, "xbcx"), track(1), cut(1, 2), cut(3, 4), rescue(1)]
        self.assertEqual(row_after(*calls), "a x-1 b*1 c*1 x-2 d e f $")

    def test_keeps_all_else(self):
        before = ABCDEF + [clock(3), comment(1, 3), reply(1), solve(1, 1), cut(1, 3), put(0, "bc"), clock(5)]
        self.assertEqual(last_told(*before, rescue(1), thread(1)), last_told(*before, thread(1)))
        self.assertEqual(last_told(*before, rescue(1), state(1)), [2, 2, 2, 1, 1])

    def test_by_any_author(self):
        self.assertEqual(last_told(*self.ORPHAN, put(0, "bc"), author(2), rescue(1)), [0, 2])

    def test_of_the_one_that_is_asked_for(self):
        before = ABCDEF + [comment(0, 1), comment(1, 3), comment(1, 2), cut(1, 3), put(0, "bc"), rescue(2)]
        self.assertEqual(row_after(*before), "b*2 c*2 a*1 d e f $")
        self.assertEqual(last_told(*before, list_of(3)), [1, 3])

    def test_a_live_one_is_refused(self):
        check_refused(self, ABCDEF + [comment(1, 3)], rescue(1), -7)
        check_refused(self, ABCDEF + [comment(1, 3), cut(1, 2), put(0, "bc")], rescue(1), -7)
        check_refused(self, self.ORPHAN + [put(0, "bc"), rescue(1)], rescue(1), -7)

    def test_a_hidden_one_is_refused(self):
        hidden = ABCDEF + [comment(1, 3), track(1), cut(1, 3)]
        check_refused(self, hidden + [put(0, "bc")], rescue(1), -7)
        self.assertEqual(last_told(*hidden, put(0, "bc"), accept(1), rescue(1)), [0, 2])

    def test_an_orphan_by_reject(self):
        before = ABCDEF + [track(1), put(0, "bc"), comment(0, 2), reject(1)]
        self.assertEqual(last_told(*before, rescue(1)), [1, 3])

    def test_unknown_comment_is_refused(self):
        for c in (0, -1, 2, LEAST, MOST):
            check_refused(self, self.ORPHAN, rescue(c), -4)
        check_refused(self, self.ORPHAN + [drop(1)], rescue(1), -4)

    def test_order_of_refusals(self):
        # It is live, and its quote stands nowhere.
        check_refused(self, ABCDEF + [comment(1, 3), move(1, 2, 5)], rescue(1), -7)


if __name__ == "__main__":
    unittest.main()
