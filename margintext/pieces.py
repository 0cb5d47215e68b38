"""The interface: a list of calls on one new object, and the list of their answers."""

from margintext.bookmarks import forget_gone, goto, make_bookmark, unmark
from margintext.editing import cut, move, put
from margintext.notes import drop, make_comment, reanchor, reply, rescue, solve
from margintext.review import accept, reject
from margintext.settings import set_author, set_clock, set_tracking
from margintext.sheet import Sheet
from margintext.telling import (tell_at, tell_bookmarks, tell_list, tell_size, tell_spots, tell_state, tell_text,
                                tell_thread, tell_waiting)


class Reader:
    """Takes a list of calls apart, from its beginning on, without changing it."""

    def __init__(self, calls):
        self.calls = calls
        self.position = 0

    def is_done(self):
        return self.position == len(self.calls)

    def take_number(self):
        number = self.calls[self.position]
        self.position += 1
        return number

    def take_list(self):
        size = self.take_number()
        start = self.position
        self.position += size
        return self.calls[start:start + size]


def call_author(sheet, reader):
    return set_author(sheet, reader.take_number())


def call_clock(sheet, reader):
    return set_clock(sheet, reader.take_number())


def call_track(sheet, reader):
    return set_tracking(sheet, reader.take_number())


def call_put(sheet, reader):
    p = reader.take_number()
    return put(sheet, p, reader.take_list())


def call_cut(sheet, reader):
    p = reader.take_number()
    return cut(sheet, p, reader.take_number())


def call_move(sheet, reader):
    p = reader.take_number()
    q = reader.take_number()
    return move(sheet, p, q, reader.take_number())


def call_accept(sheet, reader):
    return accept(sheet, reader.take_number())


def call_reject(sheet, reader):
    return reject(sheet, reader.take_number())


def call_comment(sheet, reader):
    p = reader.take_number()
    q = reader.take_number()
    return make_comment(sheet, p, q, reader.take_list())


def call_reply(sheet, reader):
    c = reader.take_number()
    return reply(sheet, c, reader.take_list())


def call_solve(sheet, reader):
    c = reader.take_number()
    return solve(sheet, c, reader.take_number())


def call_drop(sheet, reader):
    return drop(sheet, reader.take_number())


def call_reanchor(sheet, reader):
    c = reader.take_number()
    p = reader.take_number()
    return reanchor(sheet, c, p, reader.take_number())


def call_rescue(sheet, reader):
    return rescue(sheet, reader.take_number())


def call_bookmark(sheet, reader):
    p = reader.take_number()
    q = reader.take_number()
    return make_bookmark(sheet, p, q, reader.take_list())


def call_unmark(sheet, reader):
    return unmark(sheet, reader.take_list())


def call_goto(sheet, reader):
    return goto(sheet, reader.take_list())


def call_state(sheet, reader):
    return tell_state(sheet, reader.take_number())


def call_thread(sheet, reader):
    return tell_thread(sheet, reader.take_number())


def call_spots(sheet, reader):
    return tell_spots(sheet, reader.take_number())


def call_list(sheet, reader):
    return tell_list(sheet, reader.take_number())


def call_at(sheet, reader):
    return tell_at(sheet, reader.take_number())


def call_waiting(sheet, reader):
    return tell_waiting(sheet, reader.take_number())


def call_bookmarks(sheet, reader):
    return tell_bookmarks(sheet)


def call_text(sheet, reader):
    return tell_text(sheet, reader.take_number())


def call_size(sheet, reader):
    return tell_size(sheet)


# A call's number is its index here.
CALLS = (
    call_author,
    call_clock,
    call_track,
    call_put,
    call_cut,
    call_move,
    call_accept,
    call_reject,
    call_comment,
    call_reply,
    call_solve,
    call_drop,
    call_reanchor,
    call_rescue,
    call_bookmark,
    call_unmark,
    call_goto,
    call_state,
    call_thread,
    call_spots,
    call_list,
    call_at,
    call_waiting,
    call_bookmarks,
    call_text,
    call_size,
)


def answers_on(sheet, calls):
    """Does the calls on this sheet; before each answer stands how many numbers it has."""
    reader = Reader(calls)
    told = []
    while not reader.is_done():
        act = CALLS[reader.take_number()]
        answer = act(sheet, reader)
        forget_gone(sheet)
        told.append(len(answer))
        told.extend(answer)
    return told


def answers(calls):
    return answers_on(Sheet(), calls)
