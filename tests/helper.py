"""What the tests share: calls as lists of numbers, a view of a sheet, and a plain model of the document."""

from margintext.pieces import answers, answers_on
from margintext.sheet import Sheet

LEAST = -10 ** 18
MOST = 10 ** 18


def codes(signs):
    """Texts are handed to the builders as str for short; lists of numbers stay as they are."""
    return [ord(sign) for sign in signs] if isinstance(signs, str) else list(signs)


def author(a):
    return [0, a]


def clock(t):
    return [1, t]


def track(on):
    return [2, on]


def put(p, signs):
    return [3, p, len(signs)] + codes(signs)


def cut(p, q):
    return [4, p, q]


def move(p, q, r):
    return [5, p, q, r]


def accept(c):
    return [6, c]


def reject(c):
    return [7, c]


def comment(p, q, text="note"):
    return [8, p, q, len(text)] + codes(text)


def reply(c, text="answer"):
    return [9, c, len(text)] + codes(text)


def solve(c, on):
    return [10, c, on]


def drop(c):
    return [11, c]


def reanchor(c, p, q):
    return [12, c, p, q]


def joined(calls):
    return [number for call in calls for number in call]


def parted(told):
    """The answers of each call, apart."""
    parts = []
    at = 0
    while at < len(told):
        size = told[at]
        parts.append(told[at + 1:at + 1 + size])
        at += 1 + size
    return parts


def told_by(*calls):
    """What `answers` tells, one list a call."""
    return parted(answers(joined(calls)))


def last_told(*calls):
    return told_by(*calls)[-1]


def sheet_after(*calls):
    sheet = Sheet()
    answers_on(sheet, joined(calls))
    return sheet


def pieces_of(sheet):
    """The row, a tuple a piece: sign, insertions, deletions, comments (rising), bookmarks (rising)."""
    pieces = []
    for stretch in sheet.row:
        if len(stretch.signs) == 0:
            raise ValueError("a stretch without pieces")
        for sign in stretch.signs:
            pieces.append((sign, list(stretch.insertions), list(stretch.deletions),
                           sorted(stretch.comments), sorted(stretch.bookmarks)))
    return pieces


def row_of(sheet):
    """The row for short, a text a piece: sign, +insertions, -deletions, *comments; the last end is $."""
    parts = []
    for sign, insertions, deletions, comments, bookmarks in pieces_of(sheet):
        parts.append("".join([chr(sign) if sign != 10 else "$"]
                             + [f"+{change}" for change in insertions]
                             + [f"-{change}" for change in deletions]
                             + [f"*{number}" for number in comments]
                             + [f"#{number}" for number in bookmarks]))
    return " ".join(parts)


def row_after(*calls):
    return row_of(sheet_after(*calls))


def comments_of(sheet):
    return {c: (note.author, note.time, list(note.quote), list(note.text),
                [(who, when, list(text)) for who, when, text in note.replies], note.solved)
            for c, note in sheet.comments.items()}


def all_of(sheet):
    """Everything that a refused call must leave as it was."""
    return (sheet.author, sheet.time, sheet.tracking, list(sheet.change_authors), pieces_of(sheet),
            comments_of(sheet), sheet.comments_made)


def check_refused(case, before, call, number):
    """The call, behind the calls before it, is refused with this number and changes nothing."""
    sheet = sheet_after(*before)
    kept = all_of(sheet)
    case.assertEqual(parted(answers_on(sheet, call)), [[number]])
    case.assertEqual(all_of(sheet), kept)


def is_note_text(text):
    return 1 <= len(text) <= 200 and all(32 <= number <= 126 for number in text)


class Piece:
    def __init__(self, sign, insertions, deletions, comments):
        self.sign = sign
        self.insertions = insertions
        self.deletions = deletions
        self.comments = comments


class Model:
    """The document said again, piece by piece and without a thought for speed."""

    def __init__(self):
        self.author = 1
        self.time = 0
        self.tracking = False
        self.change_authors = []
        self.row = [Piece(10, [], [], set())]
        self.comments = {}
        self.comments_made = 0

    def shown(self):
        return [piece for piece in self.row if not piece.deletions]

    def own(self, piece):
        return bool(piece.insertions) and self.change_authors[piece.insertions[-1] - 1] == self.author

    def entered(self, m):
        if any(m in piece.insertions or m in piece.deletions for piece in self.row):
            self.change_authors.append(self.author)
            return m
        return 0

    def do(self, call):
        names = ("set_author", "set_clock", "set_track", "put", "cut", "move", "accept", "reject",
                 "comment", "reply", "solve", "drop", "reanchor")
        given = list(call[1:])
        lists = {3: 1, 8: 2, 9: 1}
        if call[0] in lists:
            plain = lists[call[0]]
            given = given[:plain] + [given[plain + 1:]]
        return getattr(self, names[call[0]])(*given)

    def set_author(self, a):
        if a < 1 or a > 99:
            return -2
        self.author = a
        return 0

    def set_clock(self, t):
        if t < 0:
            return -2
        if t < self.time:
            return -3
        self.time = t
        return 0

    def set_track(self, on):
        if on not in (0, 1):
            return -2
        self.tracking = bool(on)
        return 0

    def put(self, p, signs):
        shown = self.shown()
        if p < 0 or p > len(shown) - 1:
            return -1
        if not signs or any(s != 10 and (s < 32 or s > 126) for s in signs):
            return -2
        m = len(self.change_authors) + 1
        carried = shown[p - 1].comments & shown[p].comments if p > 0 else set()
        at = self.row.index(shown[p])
        self.row[at:at] = [Piece(s, [m] if self.tracking else [], [], set(carried)) for s in signs]
        return self.entered(m)

    def cut(self, p, q):
        shown = self.shown()
        if not 0 <= p < q <= len(shown) - 1:
            return -1
        m = len(self.change_authors) + 1
        for piece in shown[p:q]:
            if not self.tracking or self.own(piece):
                self.row.remove(piece)
            else:
                piece.deletions = [m]
        return self.entered(m)

    def move(self, p, q, r):
        shown = self.shown()
        last = len(shown) - 1
        if not (0 <= p < q <= last and 0 <= r <= last):
            return -1
        if p <= r <= q:
            return -3
        m = len(self.change_authors) + 1
        for piece in shown[p:q]:
            if not self.tracking or self.own(piece):
                self.row.remove(piece)
                comes = piece
            else:
                comes = Piece(piece.sign, piece.insertions + [m], [], set(piece.comments))
                piece.deletions = [m]
            self.row.insert(self.row.index(shown[r]), comes)
        return self.entered(m)

    def accept(self, c):
        return self.review(c, "deletions", "insertions")

    def reject(self, c):
        return self.review(c, "insertions", "deletions")

    def review(self, c, goes, fades):
        if c < 0 or c > len(self.change_authors):
            return -4
        before = len(self.row)
        wanted = range(1, len(self.change_authors) + 1) if c == 0 else [c]
        self.row = [piece for piece in self.row if not any(k in wanted for k in getattr(piece, goes))]
        for piece in self.row:
            setattr(piece, fades, [k for k in getattr(piece, fades) if k not in wanted])
        return before - len(self.row)

    def lay(self, c, p, q):
        shown = self.shown()
        first = self.row.index(shown[p])
        last = self.row.index(shown[q - 1])
        for piece in self.row[first:last + 1]:
            piece.comments.add(c)
        self.comments[c]["quote"] = [piece.sign for piece in shown[p:q]][:40]

    def lift(self, c):
        carried = [piece for piece in self.row if c in piece.comments]
        for piece in carried:
            piece.comments.remove(c)
        return len(carried)

    def comment(self, p, q, text):
        if not 0 <= p < q <= len(self.shown()):
            return -1
        if not is_note_text(text):
            return -2
        self.comments_made += 1
        c = self.comments_made
        self.comments[c] = {"author": self.author, "time": self.time, "text": text, "replies": [], "solved": False}
        self.lay(c, p, q)
        return c

    def reply(self, c, text):
        if c not in self.comments:
            return -4
        if not is_note_text(text):
            return -2
        if self.comments[c]["solved"]:
            return -6
        self.comments[c]["replies"].append((self.author, self.time, text))
        return len(self.comments[c]["replies"])

    def solve(self, c, on):
        if c not in self.comments:
            return -4
        if on not in (0, 1):
            return -2
        if self.comments[c]["solved"] == bool(on):
            return -6
        self.comments[c]["solved"] = bool(on)
        return 0

    def drop(self, c):
        if c not in self.comments:
            return -4
        if self.comments[c]["author"] != self.author:
            return -5
        self.comments.pop(c)
        return self.lift(c)

    def reanchor(self, c, p, q):
        if c not in self.comments:
            return -4
        if self.comments[c]["author"] != self.author:
            return -5
        if not 0 <= p < q <= len(self.shown()):
            return -1
        self.lift(c)
        self.lay(c, p, q)
        return sum(1 for piece in self.shown() if c in piece.comments)

    def all_of(self):
        """In the form of the function all_of above."""
        row = [(piece.sign, piece.insertions, piece.deletions, sorted(piece.comments), []) for piece in self.row]
        notes = {c: (note["author"], note["time"], note["quote"], note["text"], note["replies"], note["solved"])
                 for c, note in self.comments.items()}
        return (self.author, self.time, self.tracking, self.change_authors, row, notes, self.comments_made)
