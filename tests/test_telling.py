"""Promises 19 to 24, 26 and 27: state, thread, spots, list, at, waiting, text, size; and the document's example."""

import unittest

from tests.helper import (LEAST, MOST, accept, at, author, bookmark, check_refused, clock, codes, comment, cut, drop,
                          last_told, list_of, move, put, reanchor, reject, reply, rescue, size, solve, spots, state,
                          text, thread, told_by, track, unmark, waiting, with_count)

ABCDEF = [put(0, "abcdef")]


def check_unknown(case, call):
    """A call for a comment is refused when there is no such comment."""
    for c in (0, -1, 3, LEAST, MOST):
        check_refused(case, ABCDEF + [comment(0, 1), comment(1, 2)], call(c), -4)
    check_refused(case, ABCDEF + [comment(0, 1), comment(1, 2), drop(1)], call(1), -4)
    check_refused(case, [], call(1), -4)


class ExampleTest(unittest.TestCase):
    def test_word_by_word(self):
        told = told_by(track(0), author(1), put(0, [97, 98, 99, 100]), comment(1, 3), thread(1),
                       track(1), author(2), put(2, [120]), spots(1), put(1, "y"), spots(1), cut(2, 3), spots(1), state(1),
                       put(2, "z"), at(2), reject(3), text(1), text(0), spots(1), state(1))
        self.assertEqual(told, [
            [0], [0], [0], [1], [1, 0, 2, 98, 99, 4] + codes("note") + [0],
            [0], [0], [1], [1, 1, 4], [2], [1, 2, 5], [3], [1, 2, 4], [2, 2, 3, 0, 0],
            [4], [0, 0], [0], with_count(codes("aybzxcd\n")),
            [8,
             97, 0, 0, 0, 0,
             121, 1, 2, 0, 0, 0,
             98, 0, 0, 1, 1, 0,
             122, 1, 4, 0, 0, 0,
             120, 1, 1, 0, 1, 1, 0,
             99, 0, 0, 1, 1, 0,
             100, 0, 0, 0, 0,
             10, 0, 0, 0, 0],
            [2, 2, 3, 4, 6], [2, 3, 3, 0, 0]])

    def test_the_text_before_the_reject(self):
        told = told_by(put(0, "abcd"), comment(1, 3), track(1), author(2), put(2, "x"), put(1, "y"), cut(2, 3), put(2, "z"),
                       text(0), text(1), text(2))
        self.assertEqual(told[8:], [
            [8,
             97, 0, 0, 0, 0,
             121, 1, 2, 0, 0, 0,
             98, 0, 1, 3, 1, 1, 0,
             122, 1, 4, 0, 0, 0,
             120, 1, 1, 0, 1, 1, 0,
             99, 0, 0, 1, 1, 0,
             100, 0, 0, 0, 0,
             10, 0, 0, 0, 0],
            with_count(codes("ayzxcd\n")), with_count(codes("abcd\n"))])


class StateTest(unittest.TestCase):
    COMMENTED = ABCDEF + [comment(1, 4)]

    def test_live(self):
        self.assertEqual(last_told(*self.COMMENTED, state(1)), [2, 3, 3, 1, 0])
        self.assertEqual(last_told(*self.COMMENTED, track(1), cut(1, 3), state(1)), [2, 1, 3, 0, 0])

    def test_hidden(self):
        self.assertEqual(last_told(*self.COMMENTED, track(1), cut(0, 5), state(1)), [1, 0, 3, 0, 0])
        self.assertEqual(last_told(*self.COMMENTED, track(1), cut(0, 5), reject(1), state(1)), [2, 3, 3, 1, 0])

    def test_of_one_piece(self):
        calls = ABCDEF + [comment(1, 2), track(1)]
        self.assertEqual(last_told(*calls, state(1)), [2, 1, 1, 1, 0])
        self.assertEqual(last_told(*calls, cut(1, 2), state(1)), [1, 0, 1, 0, 0])
        self.assertEqual(last_told(*calls, cut(1, 2), accept(1), state(1)), [0, 0, 0, 0, 0])

    def test_orphan(self):
        self.assertEqual(last_told(*self.COMMENTED, cut(1, 4), state(1)), [0, 0, 0, 0, 0])
        self.assertEqual(last_told(*self.COMMENTED, track(1), cut(1, 4), accept(0), state(1)), [0, 0, 0, 0, 0])

    def test_solved(self):
        self.assertEqual(last_told(*self.COMMENTED, solve(1, 1), state(1)), [2, 3, 3, 1, 1])
        self.assertEqual(last_told(*self.COMMENTED, solve(1, 1), solve(1, 0), state(1)), [2, 3, 3, 1, 0])
        self.assertEqual(last_told(*self.COMMENTED, solve(1, 1), cut(1, 4), state(1)), [0, 0, 0, 0, 1])

    def test_a_quote_that_is_no_longer_carried(self):
        self.assertEqual(last_told(*self.COMMENTED, put(2, "x"), state(1)), [2, 4, 4, 0, 0])
        self.assertEqual(last_told(*self.COMMENTED, cut(3, 4), state(1)), [2, 2, 2, 0, 0])
        self.assertEqual(last_told(*self.COMMENTED, move(3, 4, 0), state(1)), [2, 3, 3, 0, 0])
        self.assertEqual(last_told(*self.COMMENTED, cut(2, 3), put(2, "x"), state(1)), [2, 3, 3, 0, 0])

    def test_a_quote_that_is_carried_again(self):
        self.assertEqual(last_told(*self.COMMENTED, put(2, "x"), cut(2, 3), state(1)), [2, 3, 3, 1, 0])
        self.assertEqual(last_told(*self.COMMENTED, cut(2, 3), put(2, "c"), state(1)), [2, 3, 3, 1, 0])
        self.assertEqual(last_told(*self.COMMENTED, put(2, "x"), reanchor(1, 1, 5), state(1)), [2, 4, 4, 1, 0])

    def test_a_quote_carried_in_parts(self):
        # What stands between and does not carry it is not looked at.
        self.assertEqual(last_told(*self.COMMENTED, move(0, 1, 3), state(1)), [2, 3, 3, 1, 0])

    def test_pieces_that_are_not_shown_are_not_quoted(self):
        calls = ABCDEF + [track(1), cut(2, 3), comment(1, 3)]
        self.assertEqual(last_told(*calls, state(1)), [2, 2, 3, 1, 0])
        self.assertEqual(last_told(*calls, reject(1), state(1)), [2, 3, 3, 0, 0])

    def test_more_than_40_shown_pieces(self):
        signs = list(range(32, 92))
        calls = [put(0, signs), comment(0, 60)]
        self.assertEqual(last_told(*calls, state(1)), [2, 60, 60, 1, 0])
        self.assertEqual(last_told(*calls, cut(40, 60), state(1)), [2, 40, 40, 1, 0])
        self.assertEqual(last_told(*calls, cut(39, 60), state(1)), [2, 39, 39, 0, 0])
        self.assertEqual(last_told(*calls, put(40, "x"), state(1)), [2, 61, 61, 1, 0])
        self.assertEqual(last_told(*calls, put(39, "x"), state(1)), [2, 61, 61, 0, 0])
        self.assertEqual(last_told(*calls, track(1), cut(45, 50), state(1)), [2, 55, 60, 1, 0])

    def test_a_short_quote_in_more_than_40_pieces(self):
        self.assertEqual(last_told(*self.COMMENTED, put(2, "x" * 50), state(1)), [2, 53, 53, 0, 0])

    def test_unknown(self):
        check_unknown(self, state)


class ThreadTest(unittest.TestCase):
    def test_without_replies(self):
        self.assertEqual(last_told(*ABCDEF, author(7), clock(9), comment(1, 3, "hm"), thread(1)),
                         [7, 9, 2, 98, 99, 2, 104, 109, 0])

    def test_with_replies(self):
        calls = ABCDEF + [author(7), clock(9), comment(1, 3, "hm"), author(2), clock(MOST), reply(1, "a"), author(99),
                          reply(1, "bc"), author(1)]
        self.assertEqual(last_told(*calls, thread(1)),
                         [7, 9, 2, 98, 99, 2, 104, 109, 2, 2, MOST, 1, 97, 99, MOST, 2, 98, 99])

    def test_of_the_one_that_is_asked_for(self):
        calls = ABCDEF + [comment(1, 3, "x"), comment(0, 1, "y"), reply(1, "z")]
        self.assertEqual(told_by(*calls, thread(1), thread(2))[-2:],
                         [[1, 0, 2, 98, 99, 1, 120, 1, 1, 0, 1, 122], [1, 0, 1, 97, 1, 121, 0]])

    def test_of_an_orphan_and_a_solved_one(self):
        calls = ABCDEF + [comment(1, 3, "x"), solve(1, 1), cut(0, 6)]
        self.assertEqual(last_told(*calls, thread(1)), [1, 0, 2, 98, 99, 1, 120, 0])

    def test_the_quote_is_the_newest(self):
        calls = ABCDEF + [comment(1, 3, "x"), reanchor(1, 3, 4)]
        self.assertEqual(last_told(*calls, thread(1)), [1, 0, 1, 100, 1, 120, 0])

    def test_longest_lists(self):
        signs = list(range(32, 92))
        calls = [put(0, signs), comment(0, 60, [126] * 200), reply(1, [32] * 200)]
        self.assertEqual(last_told(*calls, thread(1)),
                         [1, 0, 40] + signs[:40] + [200] + [126] * 200 + [1, 1, 0, 200] + [32] * 200)

    def test_unknown(self):
        check_unknown(self, thread)


class SpotsTest(unittest.TestCase):
    COMMENTED = ABCDEF + [comment(1, 4)]

    def test_one(self):
        self.assertEqual(last_told(*self.COMMENTED, spots(1)), [1, 1, 4])
        self.assertEqual(last_told(*ABCDEF, comment(0, 7), spots(1)), [1, 0, 7])
        self.assertEqual(last_told(comment(0, 1), spots(1)), [1, 0, 1])

    def test_none(self):
        self.assertEqual(last_told(*self.COMMENTED, cut(1, 4), spots(1)), [0])
        self.assertEqual(last_told(*self.COMMENTED, track(1), cut(1, 4), spots(1)), [0])

    def test_several(self):
        self.assertEqual(last_told(*self.COMMENTED, move(5, 6, 2), spots(1)), [2, 1, 2, 3, 5])
        self.assertEqual(last_told(*self.COMMENTED, move(5, 6, 2), move(0, 1, 4), spots(1)), [3, 0, 1, 2, 3, 4, 5])
        self.assertEqual(last_told(*self.COMMENTED, move(1, 2, 6), spots(1)), [2, 1, 3, 5, 6])

    def test_as_long_as_can_be(self):
        # x and what stands around it bear different changes, and yet are one spot.
        self.assertEqual(last_told(*self.COMMENTED, track(1), put(2, "x"), comment(2, 4), spots(1)), [1, 1, 5])
        self.assertEqual(last_told(*self.COMMENTED, bookmark(2, 3, "b"), comment(2, 3), spots(1)), [1, 1, 4])

    def test_pieces_that_are_not_shown_are_passed_over(self):
        # Neither a carrying piece nor one that does not carry it parts a spot while it is not shown.
        self.assertEqual(last_told(*self.COMMENTED, track(1), cut(2, 3), spots(1)), [1, 1, 3])
        parted = self.COMMENTED + [move(5, 6, 2), track(1)]
        self.assertEqual(last_told(*parted, cut(2, 3), spots(1)), [1, 1, 4])
        self.assertEqual(last_told(*parted, cut(2, 3), reject(1), spots(1)), [2, 1, 2, 3, 5])
        self.assertEqual(last_told(*parted, cut(0, 1), spots(1)), [2, 0, 1, 2, 4])

    def test_unknown(self):
        check_unknown(self, spots)


class ListTest(unittest.TestCase):
    def test_none(self):
        self.assertEqual(told_by(*[list_of(w) for w in range(4)]), [[0]] * 4)

    def test_in_the_order_of_the_row(self):
        calls = ABCDEF + [comment(3, 5), comment(5, 7), comment(0, 1), comment(2, 6)]
        self.assertEqual(last_told(*calls, list_of(0)), [4, 3, 4, 1, 2])
        self.assertEqual(last_told(*calls, move(3, 6, 0), list_of(0)), [4, 1, 4, 2, 3])

    def test_several_that_begin_at_one_piece(self):
        calls = ABCDEF + [comment(2, 3), comment(2, 6), comment(0, 1), comment(2, 4)]
        self.assertEqual(last_told(*calls, list_of(0)), [4, 3, 1, 2, 4])
        # Laid anew, a comment still stands by its number.
        self.assertEqual(last_told(*calls, reanchor(1, 2, 5), list_of(0)), [4, 3, 1, 2, 4])
        self.assertEqual(last_told(*calls, reanchor(3, 2, 3), reanchor(2, 2, 3), list_of(0)), [4, 1, 2, 3, 4])

    def test_a_first_piece_that_is_not_shown(self):
        calls = ABCDEF + [comment(1, 2), comment(0, 3), track(1)]
        self.assertEqual(last_told(*calls, list_of(0)), [2, 2, 1])
        self.assertEqual(last_told(*calls, cut(0, 1), list_of(0)), [2, 2, 1])
        self.assertEqual(last_told(*calls, cut(0, 3), list_of(0)), [2, 2, 1])
        self.assertEqual(last_told(*calls, track(0), cut(0, 1), list_of(0)), [2, 1, 2])
        # The first piece of 1 is the one that the move left, not the one that is shown.
        moved = ABCDEF + [comment(1, 2), comment(2, 3), track(1), move(1, 2, 6)]
        self.assertEqual(last_told(*moved, list_of(0)), [2, 1, 2])
        self.assertEqual(last_told(*moved, accept(0), list_of(0)), [2, 2, 1])

    def test_orphans_come_behind(self):
        calls = ABCDEF + [comment(0, 2), comment(5, 6), comment(1, 2), comment(3, 4), comment(1, 2), cut(0, 2)]
        self.assertEqual(last_told(*calls, list_of(0)), [5, 4, 2, 1, 3, 5])
        self.assertEqual(last_told(*calls, list_of(3)), [3, 1, 3, 5])
        self.assertEqual(last_told(*calls, drop(3), list_of(3)), [2, 1, 5])

    def test_hidden_ones_are_no_orphans(self):
        calls = ABCDEF + [comment(0, 2), comment(2, 3), track(1), cut(0, 2)]
        self.assertEqual(told_by(*calls, list_of(0), list_of(3))[-2:], [[2, 1, 2], [0]])
        self.assertEqual(told_by(*calls, accept(1), list_of(0), list_of(3))[-2:], [[2, 2, 1], [1, 1]])

    def test_open_and_solved(self):
        calls = ABCDEF + [comment(3, 4), comment(0, 1), comment(1, 2), comment(1, 2), comment(5, 6), solve(1, 1),
                          solve(3, 1), cut(1, 2)]
        self.assertEqual(told_by(*calls, *[list_of(w) for w in range(4)])[-4:],
                         [[5, 2, 1, 5, 3, 4], [3, 2, 5, 4], [2, 1, 3], [2, 3, 4]])
        self.assertEqual(last_told(*calls, solve(1, 0), list_of(2)), [1, 3])

    def test_dropped_ones_are_not_told(self):
        calls = ABCDEF + [comment(0, 1), comment(0, 1), comment(0, 1), drop(2)]
        self.assertEqual(last_told(*calls, list_of(0)), [2, 1, 3])

    def test_a_rescued_one(self):
        calls = ABCDEF + [comment(0, 1), comment(1, 2), cut(0, 1), put(5, "a")]
        self.assertEqual(told_by(*calls, list_of(0), rescue(1), list_of(0), list_of(3))[-4:],
                         [[2, 2, 1], [5, 6], [2, 2, 1], [0]])

    def test_refused(self):
        for w in (-1, 4, LEAST, MOST):
            check_refused(self, ABCDEF + [comment(0, 1)], list_of(w), -2)


class AtTest(unittest.TestCase):
    def test_nothing(self):
        self.assertEqual(last_told(at(0)), [0, 0])
        self.assertEqual(last_told(*ABCDEF, comment(0, 1), bookmark(0, 1, "one"), at(1)), [0, 0])

    def test_comments_rising(self):
        calls = ABCDEF + [comment(0, 3), comment(1, 2), comment(2, 4), reanchor(1, 1, 3)]
        self.assertEqual(told_by(*calls, *[at(p) for p in range(5)])[-5:],
                         [[0, 0], [2, 1, 2, 0], [2, 1, 3, 0], [1, 3, 0], [0, 0]])

    def test_names_in_the_order_in_which_they_were_made(self):
        calls = ABCDEF + [bookmark(0, 3, "z"), bookmark(1, 2, "abc"), bookmark(1, 4, "m")]
        self.assertEqual(last_told(*calls, at(1)), [0, 3, 1, 122, 3, 97, 98, 99, 1, 109])
        self.assertEqual(last_told(*calls, at(2)), [0, 2, 1, 122, 1, 109])
        self.assertEqual(last_told(*calls, unmark("z"), bookmark(1, 2, "z"), at(1)),
                         [0, 3, 3, 97, 98, 99, 1, 109, 1, 122])

    def test_both(self):
        calls = ABCDEF + [comment(0, 3), comment(0, 3), bookmark(0, 2, "one")]
        self.assertEqual(last_told(*calls, at(0)), [2, 1, 2, 1, 3, 111, 110, 101])

    def test_at_the_last_end(self):
        calls = ABCDEF + [comment(5, 7), bookmark(6, 7, "end")]
        self.assertEqual(last_told(*calls, at(6)), [1, 1, 1, 3, 101, 110, 100])
        self.assertEqual(last_told(comment(0, 1), bookmark(0, 1, "end"), at(0)), [1, 1, 1, 3, 101, 110, 100])
        self.assertEqual(last_told(*calls, at(5)), [1, 1, 0])

    def test_at_the_place_of_a_shown_piece(self):
        calls = ABCDEF + [comment(0, 1), comment(1, 2), track(1), cut(0, 1)]
        self.assertEqual(last_told(*calls, at(0)), [1, 2, 0])

    def test_refused(self):
        for p in (-1, 7, 8, LEAST, MOST):
            check_refused(self, ABCDEF, at(p), -1)
        check_refused(self, [], at(1), -1)
        check_refused(self, ABCDEF + [track(1), cut(0, 2)], at(5), -1)


class WaitingTest(unittest.TestCase):
    def test_only_the_comment(self):
        calls = [author(2), comment(0, 1)]
        self.assertEqual(told_by(*calls, waiting(2), waiting(3))[-2:], [[0], [0]])
        self.assertEqual(told_by(*calls, author(3), reply(1), waiting(2), waiting(3))[-2:], [[1, 1], [0]])

    def test_only_a_reply(self):
        calls = [author(2), comment(0, 1), author(3), reply(1), author(4), reply(1)]
        self.assertEqual(told_by(*calls, *[waiting(a) for a in range(1, 6)])[-5:], [[0], [1, 1], [1, 1], [0], [0]])

    def test_who_wrote_last_does_not_wait(self):
        calls = [author(2), comment(0, 1), author(3), reply(1), author(2), reply(1)]
        self.assertEqual(told_by(*calls, waiting(2), waiting(3))[-2:], [[0], [1, 1]])
        self.assertEqual(told_by(author(2), comment(0, 1), reply(1), waiting(2))[-1], [0])

    def test_solved_ones_do_not_wait(self):
        calls = [author(2), comment(0, 1), author(3), reply(1), solve(1, 1)]
        self.assertEqual(last_told(*calls, waiting(2)), [0])
        self.assertEqual(last_told(*calls, solve(1, 0), waiting(2)), [1, 1])

    def test_several_rising(self):
        # By their numbers, wherever they stand; orphans wait too.
        calls = ABCDEF + [comment(4, 5), comment(2, 3), comment(0, 1), comment(1, 2), author(2), reply(3), reply(1),
                          reply(4), cut(1, 2)]
        self.assertEqual(last_told(*calls, waiting(1)), [3, 1, 3, 4])
        self.assertEqual(last_told(*calls, author(1), drop(3), waiting(1)), [2, 1, 4])

    def test_whose_moment_it_is_does_not_matter(self):
        calls = [author(99), comment(0, 1), author(1), reply(1)]
        for a in (1, 50, 99):
            self.assertEqual(told_by(*calls, author(a), waiting(99), waiting(1))[-2:], [[1, 1], [0]])

    def test_refused(self):
        for a in (0, -1, 100, LEAST, MOST):
            check_refused(self, [comment(0, 1)], waiting(a), -2)
        self.assertEqual(told_by(waiting(1), waiting(99)), [[0], [0]])


class TextTest(unittest.TestCase):
    # author 1 puts "abc"; tracked: author 2 puts x (1), author 3 moves x (2), author 2 cuts b (3)
    CALLS = [put(0, "abc"), track(1), author(2), put(1, "x"), author(3), move(1, 2, 0), author(2), cut(2, 3)]

    def test_all_pieces(self):
        self.assertEqual(last_told(*self.CALLS, text(0)),
                         [6,
                          120, 2, 1, 2, 0, 0, 0,
                          97, 0, 0, 0, 0,
                          120, 1, 1, 1, 2, 0, 0,
                          98, 0, 1, 3, 0, 0,
                          99, 0, 0, 0, 0,
                          10, 0, 0, 0, 0])

    def test_shown_pieces(self):
        self.assertEqual(last_told(*self.CALLS, text(1)), [4, 120, 97, 99, 10])

    def test_pieces_without_insertions(self):
        self.assertEqual(last_told(*self.CALLS, text(2)), [4, 97, 98, 99, 10])
        self.assertEqual(last_told(*self.CALLS, accept(2), text(2)), [4, 97, 98, 99, 10])
        self.assertEqual(last_told(*self.CALLS, accept(2), accept(1), text(2)), [5, 120, 97, 98, 99, 10])

    def test_comments_and_bookmarks(self):
        calls = [put(0, "abc"), comment(0, 2), comment(1, 3), bookmark(1, 4, "p"), bookmark(1, 2, "q"), reanchor(1, 0, 3)]
        self.assertEqual(last_told(*calls, text(0)),
                         [4,
                          97, 0, 0, 1, 1, 0,
                          98, 0, 0, 2, 1, 2, 2,
                          99, 0, 0, 2, 1, 2, 1,
                          10, 0, 0, 0, 1])
        self.assertEqual(last_told(*calls, track(1), cut(1, 2), text(0)),
                         [4,
                          97, 0, 0, 1, 1, 0,
                          98, 0, 1, 1, 2, 1, 2, 2,
                          99, 0, 0, 2, 1, 2, 1,
                          10, 0, 0, 0, 1])
        self.assertEqual(told_by(*calls, text(1), text(2))[-2:], [[4, 97, 98, 99, 10]] * 2)

    def test_of_the_last_end_alone(self):
        self.assertEqual(told_by(text(0), text(1), text(2)), [[1, 10, 0, 0, 0, 0], [1, 10], [1, 10]])

    def test_of_nothing_but_changes(self):
        self.assertEqual(told_by(track(1), put(0, "a"), author(2), cut(0, 1), text(0), text(1), text(2))[-3:],
                         [[2, 97, 1, 1, 1, 2, 0, 0, 10, 0, 0, 0, 0], [1, 10], [1, 10]])

    def test_refused(self):
        for w in (-1, 3, LEAST, MOST):
            check_refused(self, self.CALLS, text(w), -2)


class SizeTest(unittest.TestCase):
    def test_new(self):
        self.assertEqual(last_told(size()), [1, 1, 0, 0, 0])

    def test_shown_and_all(self):
        self.assertEqual(last_told(*ABCDEF, size()), [7, 7, 0, 0, 0])
        self.assertEqual(last_told(*ABCDEF, track(1), cut(0, 2), size()), [5, 7, 1, 0, 0])
        self.assertEqual(last_told(*ABCDEF, track(1), move(0, 2, 5), size()), [7, 9, 1, 0, 0])

    def test_changes_stay_entered(self):
        calls = ABCDEF + [track(1), put(0, "x"), cut(0, 1)]
        self.assertEqual(last_told(*calls, size()), [7, 7, 1, 0, 0])
        self.assertEqual(last_told(*calls, cut(0, 1), accept(0), size()), [6, 6, 2, 0, 0])

    def test_comments(self):
        calls = ABCDEF + [comment(0, 1), comment(0, 2), comment(1, 2)]
        self.assertEqual(last_told(*calls, size()), [7, 7, 0, 3, 0])
        self.assertEqual(last_told(*calls, cut(0, 2), size()), [5, 5, 0, 3, 0])
        self.assertEqual(last_told(*calls, solve(2, 1), size()), [7, 7, 0, 3, 0])
        self.assertEqual(last_told(*calls, drop(2), size()), [7, 7, 0, 2, 0])
        self.assertEqual(last_told(*calls, cut(0, 2), drop(1), drop(3), size()), [5, 5, 0, 1, 0])

    def test_bookmarks(self):
        calls = ABCDEF + [bookmark(0, 1, "a"), bookmark(0, 2, "b"), bookmark(1, 2, "c")]
        self.assertEqual(last_told(*calls, size()), [7, 7, 0, 0, 3])
        self.assertEqual(last_told(*calls, unmark("b"), size()), [7, 7, 0, 0, 2])
        self.assertEqual(last_told(*calls, cut(0, 1), size()), [6, 6, 0, 0, 2])
        self.assertEqual(last_told(*calls, cut(0, 2), size()), [5, 5, 0, 0, 0])
        self.assertEqual(last_told(*calls, track(1), cut(0, 2), size()), [5, 7, 1, 0, 3])
        self.assertEqual(last_told(*calls, track(1), cut(0, 2), accept(1), size()), [5, 5, 1, 0, 0])


if __name__ == "__main__":
    unittest.main()
