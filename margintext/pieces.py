"""The interface: a list of calls on one new object, and the list of their answers."""

from margintext.editing import cut, move, put
from margintext.notes import drop, make_comment, reanchor, reply, solve
from margintext.review import accept, reject
from margintext.settings import set_author, set_clock, set_tracking
from margintext.sheet import Sheet


class Reader:
    """Takes a list of calls apart, from its beginning on, without changing it."""

    def __init__(self, calls):
        self.calls = calls
        self.position = 0

    def is_done(self):
        return self.position == len(self.calls)

    def take_number(self):
        number = self.calls[self.position]
        self.position += 1
        return number

    def take_list(self):
        size = self.take_number()
        start = self.position
        self.position += size
        return self.calls[start:start + size]


def call_author(sheet, reader):
    return set_author(sheet, reader.take_number())


def call_clock(sheet, reader):
    return set_clock(sheet, reader.take_number())


def call_track(sheet, reader):
    return set_tracking(sheet, reader.take_number())


def call_put(sheet, reader):
    p = reader.take_number()
    return put(sheet, p, reader.take_list())


def call_cut(sheet, reader):
    p = reader.take_number()
    return cut(sheet, p, reader.take_number())


def call_move(sheet, reader):
    p = reader.take_number()
    q = reader.take_number()
    return move(sheet, p, q, reader.take_number())


def call_accept(sheet, reader):
    return accept(sheet, reader.take_number())


def call_reject(sheet, reader):
    return reject(sheet, reader.take_number())


def call_comment(sheet, reader):
    p = reader.take_number()
    q = reader.take_number()
    return make_comment(sheet, p, q, reader.take_list())


def call_reply(sheet, reader):
    c = reader.take_number()
    return reply(sheet, c, reader.take_list())


def call_solve(sheet, reader):
    c = reader.take_number()
    return solve(sheet, c, reader.take_number())


def call_drop(sheet, reader):
    return drop(sheet, reader.take_number())


def call_reanchor(sheet, reader):
    c = reader.take_number()
    p = reader.take_number()
    return reanchor(sheet, c, p, reader.take_number())


# A call's number is its index here.
CALLS = (
    call_author,
    call_clock,
    call_track,
    call_put,
    call_cut,
    call_move,
    call_accept,
    call_reject,
    call_comment,
    call_reply,
    call_solve,
    call_drop,
    call_reanchor,
)


def answers_on(sheet, calls):
    """Does the calls on this sheet; before each answer stands how many numbers it has."""
    reader = Reader(calls)
    told = []
    while not reader.is_done():
        act = CALLS[reader.take_number()]
        answer = act(sheet, reader)
        told.append(len(answer))
        told.extend(answer)
    return told


def answers(calls):
    return answers_on(Sheet(), calls)
