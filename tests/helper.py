"""What the tests share: calls as lists of numbers, a view of a sheet, and a plain model of the document."""

from margintext.pieces import answers, answers_on
from margintext.sheet import Sheet

LEAST = -10 ** 18
MOST = 10 ** 18


def codes(signs):
    """Texts are handed to the builders as str for short; lists of numbers stay as they are."""
    return [ord(sign) for sign in signs] if isinstance(signs, str) else list(signs)


def author(a):
    return [0, a]


def clock(t):
    return [1, t]


def track(on):
    return [2, on]


def put(p, signs):
    return [3, p, len(signs)] + codes(signs)


def cut(p, q):
    return [4, p, q]


def move(p, q, r):
    return [5, p, q, r]


def accept(c):
    return [6, c]


def reject(c):
    return [7, c]


def comment(p, q, text="note"):
    return [8, p, q, len(text)] + codes(text)


def reply(c, text="answer"):
    return [9, c, len(text)] + codes(text)


def solve(c, on):
    return [10, c, on]


def drop(c):
    return [11, c]


def reanchor(c, p, q):
    return [12, c, p, q]


def rescue(c):
    return [13, c]


def bookmark(p, q, name):
    return [14, p, q, len(name)] + codes(name)


def unmark(name):
    return [15, len(name)] + codes(name)


def goto(name):
    return [16, len(name)] + codes(name)


def state(c):
    return [17, c]


def thread(c):
    return [18, c]


def spots(c):
    return [19, c]


def list_of(w):
    return [20, w]


def at(p):
    return [21, p]


def waiting(a):
    return [22, a]


def bookmarks():
    return [23]


def text(w):
    return [24, w]


def size():
    return [25]


def joined(calls):
    return [number for call in calls for number in call]


def parted(told):
    """The answers of each call, apart."""
    parts = []
    start = 0
    while start < len(told):
        stop = start + 1 + told[start]
        parts.append(told[start + 1:stop])
        start = stop
    return parts


def told_by(*calls):
    """What `answers` tells, one list a call."""
    return parted(answers(joined(calls)))


def last_told(*calls):
    return told_by(*calls)[-1]


def sheet_after(*calls):
    sheet = Sheet()
    answers_on(sheet, joined(calls))
    return sheet


def name_text(name):
    return "".join(chr(number) for number in name)


def pieces_of(sheet):
    """The row, a tuple a piece: sign, insertions, deletions, comments (rising), names of bookmarks (rising)."""
    pieces = []
    for stretch in sheet.row:
        if len(stretch.signs) == 0:
            raise ValueError("a stretch without pieces")
        names = sorted(name_text(sheet.bookmarks[b]) for b in stretch.bookmarks)
        for sign in stretch.signs:
            pieces.append((sign, list(stretch.insertions), list(stretch.deletions), sorted(stretch.comments), names))
    return pieces


def row_of(sheet):
    """The row for short, a text a piece: sign, +insertions, -deletions, *comments, #bookmarks; a 10 is $."""
    parts = []
    for sign, insertions, deletions, comments, names in pieces_of(sheet):
        parts.append("".join([chr(sign) if sign != 10 else "$"]
                             + [f"+{change}" for change in insertions]
                             + [f"-{change}" for change in deletions]
                             + [f"*{number}" for number in comments]
                             + [f"#{name}" for name in names]))
    return " ".join(parts)


def row_after(*calls):
    return row_of(sheet_after(*calls))


def comments_of(sheet):
    return {c: (note.author, note.time, list(note.quote), list(note.text),
                [(who, when, list(text)) for who, when, text in note.replies], note.solved)
            for c, note in sheet.comments.items()}


def names_of(sheet):
    return [name_text(name) for name in sheet.bookmarks.values()]


def all_of(sheet):
    """Everything that a refused call must leave as it was."""
    return (sheet.author, sheet.time, sheet.tracking, list(sheet.change_authors), pieces_of(sheet),
            comments_of(sheet), sheet.comments_made, names_of(sheet))


# What tells of everything that can be told of; a comment that is not there is refused before and after alike.
LOOKS = ([text(w) for w in range(3)] + [size(), bookmarks()] + [list_of(w) for w in range(4)]
         + [look(c) for c in range(1, 8) for look in (thread, state, spots)] + [waiting(a) for a in range(1, 6)])


def check_refused(case, before, call, number):
    """The call, behind the calls before it, is refused with this number and changes nothing."""
    kept = told_by(*before, *LOOKS)[len(before):]
    case.assertEqual(told_by(*before, call, *LOOKS)[len(before):], [[number]] + kept)
    sheet = sheet_after(*before)
    everything = all_of(sheet)
    answers_on(sheet, call)
    case.assertEqual(all_of(sheet), everything)


def is_note_text(text):
    return 1 <= len(text) <= 200 and all(32 <= number <= 126 for number in text)


class Piece:
    def __init__(self, sign, insertions, deletions, comments, names):
        self.sign = sign
        self.insertions = insertions
        self.deletions = deletions
        self.comments = comments
        self.names = names


def first(numbers, wanted):
    """The least index from which on the numbers begin with the wanted ones, None if there is none."""
    fitting = [k for k in range(len(numbers)) if numbers[k:k + len(wanted)] == wanted]
    return fitting[0] if fitting else None


def with_count(numbers):
    return [len(numbers)] + list(numbers)


class Model:
    """The document said again, piece by piece and without a thought for speed."""

    CALLS = ("set_author", "set_clock", "set_track", "put", "cut", "move", "accept", "reject", "comment", "reply",
             "solve", "drop", "reanchor", "rescue", "bookmark", "unmark", "goto", "state", "thread", "spots", "list_of",
             "at", "waiting", "bookmarks", "text", "size")
    # Where the count of the list stands in a call that is handed one.
    LISTS = {3: 2, 8: 3, 9: 2, 14: 3, 15: 1, 16: 1}

    def __init__(self):
        self.author = 1
        self.time = 0
        self.tracking = False
        self.change_authors = []
        self.row = [Piece(10, [], [], set(), set())]
        self.comments = {}
        self.comments_made = 0
        self.names = []

    def shown(self):
        return [piece for piece in self.row if not piece.deletions]

    def own(self, piece):
        return bool(piece.insertions) and self.change_authors[piece.insertions[-1] - 1] == self.author

    def entered(self, m):
        if any(m in piece.insertions or m in piece.deletions for piece in self.row):
            self.change_authors.append(self.author)
            return m
        return 0

    def do(self, call):
        given = list(call[1:])
        if call[0] in self.LISTS:
            count = self.LISTS[call[0]]
            given = call[1:count] + [call[count + 1:]]
        answer = getattr(self, self.CALLS[call[0]])(*given)
        self.names = [name for name in self.names if any(name in piece.names for piece in self.row)]
        return answer if isinstance(answer, list) else [answer]

    def set_author(self, a):
        if a < 1 or a > 99:
            return -2
        self.author = a
        return 0

    def set_clock(self, t):
        if t < 0:
            return -2
        if t < self.time:
            return -3
        self.time = t
        return 0

    def set_track(self, on):
        if on not in (0, 1):
            return -2
        self.tracking = bool(on)
        return 0

    def put(self, p, signs):
        shown = self.shown()
        if p < 0 or p > len(shown) - 1:
            return -1
        if not signs or any(s != 10 and (s < 32 or s > 126) for s in signs):
            return -2
        m = len(self.change_authors) + 1
        comments = shown[p - 1].comments & shown[p].comments if p > 0 else set()
        names = shown[p - 1].names & shown[p].names if p > 0 else set()
        k = self.row.index(shown[p])
        self.row[k:k] = [Piece(s, [m] if self.tracking else [], [], set(comments), set(names)) for s in signs]
        return self.entered(m)

    def cut(self, p, q):
        shown = self.shown()
        if not 0 <= p < q <= len(shown) - 1:
            return -1
        m = len(self.change_authors) + 1
        for piece in shown[p:q]:
            if not self.tracking or self.own(piece):
                self.row.remove(piece)
            else:
                piece.deletions = [m]
        return self.entered(m)

    def move(self, p, q, r):
        shown = self.shown()
        last = len(shown) - 1
        if not (0 <= p < q <= last and 0 <= r <= last):
            return -1
        if p <= r <= q:
            return -3
        m = len(self.change_authors) + 1
        for piece in shown[p:q]:
            if not self.tracking or self.own(piece):
                self.row.remove(piece)
                comes = piece
            else:
                comes = Piece(piece.sign, piece.insertions + [m], [], set(piece.comments), set(piece.names))
                piece.deletions = [m]
            self.row.insert(self.row.index(shown[r]), comes)
        return self.entered(m)

    def accept(self, c):
        return self.review(c, "deletions", "insertions")

    def reject(self, c):
        return self.review(c, "insertions", "deletions")

    def review(self, c, goes, fades):
        if c < 0 or c > len(self.change_authors):
            return -4
        before = len(self.row)
        wanted = range(1, len(self.change_authors) + 1) if c == 0 else [c]
        self.row = [piece for piece in self.row if not any(k in wanted for k in getattr(piece, goes))]
        for piece in self.row:
            setattr(piece, fades, [k for k in getattr(piece, fades) if k not in wanted])
        return before - len(self.row)

    def fits(self, p, q):
        return 0 <= p < q <= len(self.shown())

    def stretch(self, p, q):
        shown = self.shown()
        return self.row[self.row.index(shown[p]):self.row.index(shown[q - 1]) + 1]

    def lay(self, c, p, q):
        for piece in self.stretch(p, q):
            piece.comments.add(c)

    def quote(self, p, q):
        return [piece.sign for piece in self.shown()[p:q]][:40]

    def carriers(self, c):
        return [piece for piece in self.row if c in piece.comments]

    def lift(self, c):
        carried = self.carriers(c)
        for piece in carried:
            piece.comments.remove(c)
        return len(carried)

    def comment(self, p, q, text):
        if not self.fits(p, q):
            return -1
        if not is_note_text(text):
            return -2
        self.comments_made += 1
        c = self.comments_made
        self.comments[c] = {"author": self.author, "time": self.time, "quote": self.quote(p, q), "text": text,
                            "replies": [], "solved": False}
        self.lay(c, p, q)
        return c

    def reply(self, c, text):
        if c not in self.comments:
            return -4
        if not is_note_text(text):
            return -2
        if self.comments[c]["solved"]:
            return -6
        self.comments[c]["replies"].append((self.author, self.time, text))
        return len(self.comments[c]["replies"])

    def solve(self, c, on):
        if c not in self.comments:
            return -4
        if on not in (0, 1):
            return -2
        if self.comments[c]["solved"] == bool(on):
            return -6
        self.comments[c]["solved"] = bool(on)
        return 0

    def drop(self, c):
        if c not in self.comments:
            return -4
        if self.comments[c]["author"] != self.author:
            return -5
        self.comments.pop(c)
        return self.lift(c)

    def reanchor(self, c, p, q):
        if c not in self.comments:
            return -4
        if self.comments[c]["author"] != self.author:
            return -5
        if not self.fits(p, q):
            return -1
        self.lift(c)
        self.lay(c, p, q)
        self.comments[c]["quote"] = self.quote(p, q)
        return sum(1 for piece in self.shown() if c in piece.comments)

    def rescue(self, c):
        if c not in self.comments:
            return -4
        if self.carriers(c):
            return -7
        quote = self.comments[c]["quote"]
        p = first([piece.sign for piece in self.shown()], quote)
        if p is None:
            return -8
        self.lay(c, p, p + len(quote))
        return [p, p + len(quote)]

    def bookmark(self, p, q, name):
        if not self.fits(p, q):
            return -1
        if not 1 <= len(name) <= 20 or any(k < 97 or k > 122 for k in name):
            return -2
        if name_text(name) in self.names:
            return -5
        self.names.append(name_text(name))
        for piece in self.stretch(p, q):
            piece.names.add(name_text(name))
        return len(self.names)

    def marked(self, name):
        """The pieces that carry the bookmark with this name, as a list of numbers; none if there is no such one."""
        return [piece for piece in self.row if name in [codes(other) for other in piece.names]]

    def unmark(self, name):
        carried = self.marked(name)
        for piece in carried:
            piece.names.remove(name_text(name))
        return len(carried) if carried else -4

    def goto(self, name):
        if not self.marked(name):
            return -4
        places = [p for p, piece in enumerate(self.shown()) if piece in self.marked(name)]
        return [places[0], places[-1] + 1] if places else -7

    def state(self, c):
        if c not in self.comments:
            return -4
        shown = [piece for piece in self.carriers(c) if not piece.deletions]
        pieces = len(self.carriers(c))
        fits = [piece.sign for piece in shown][:40] == self.comments[c]["quote"]
        return [2 if shown else 1 if pieces else 0, len(shown), pieces, int(fits), int(self.comments[c]["solved"])]

    def thread(self, c):
        if c not in self.comments:
            return -4
        note = self.comments[c]
        told = [note["author"], note["time"]] + with_count(note["quote"]) + with_count(note["text"])
        return told + [len(note["replies"])] + joined([who, when] + with_count(said)
                                                      for who, when, said in note["replies"])

    def spots(self, c):
        if c not in self.comments:
            return -4
        carry = [False] + [c in piece.comments for piece in self.shown()] + [False]
        begins = [p for p in range(len(carry) - 1) if carry[p + 1] and not carry[p]]
        ends = [p for p in range(len(carry) - 1) if carry[p] and not carry[p + 1]]
        return [len(begins)] + joined(zip(begins, ends))

    def list_of(self, w):
        if w not in (0, 1, 2, 3):
            return -2
        laid = sorted((self.row.index(self.carriers(c)[0]), c) for c in self.comments if self.carriers(c))
        orphans = sorted(c for c in self.comments if not self.carriers(c))
        wanted = {0: lambda c: True, 1: lambda c: not self.comments[c]["solved"],
                  2: lambda c: self.comments[c]["solved"], 3: lambda c: c in orphans}[w]
        return with_count([c for c in [c for k, c in laid] + orphans if wanted(c)])

    def at(self, p):
        if not 0 <= p <= len(self.shown()) - 1:
            return -1
        piece = self.shown()[p]
        names = [codes(name) for name in self.names if name in piece.names]
        return with_count(sorted(piece.comments)) + [len(names)] + joined(with_count(name) for name in names)

    def waiting(self, a):
        if a < 1 or a > 99:
            return -2
        wait = []
        for c, note in self.comments.items():
            wrote = [note["author"]] + [who for who, when, said in note["replies"]]
            if not note["solved"] and a in wrote and wrote[-1] != a:
                wait.append(c)
        return with_count(sorted(wait))

    def bookmarks(self):
        told = [len(self.names)]
        for name in self.names:
            ends = self.goto(codes(name))
            told += with_count(codes(name)) + (ends if ends != -7 else [-1, -1])
        return told

    def text(self, w):
        if w not in (0, 1, 2):
            return -2
        if w == 1:
            return with_count([piece.sign for piece in self.shown()])
        if w == 2:
            return with_count([piece.sign for piece in self.row if not piece.insertions])
        return [len(self.row)] + joined([piece.sign] + with_count(piece.insertions) + with_count(piece.deletions)
                                        + with_count(sorted(piece.comments)) + [len(piece.names)]
                                        for piece in self.row)

    def size(self):
        return [len(self.shown()), len(self.row), len(self.change_authors), len(self.comments), len(self.names)]

    def all_of(self):
        """In the form of the function all_of above."""
        row = [(piece.sign, piece.insertions, piece.deletions, sorted(piece.comments), sorted(piece.names))
               for piece in self.row]
        notes = {c: (note["author"], note["time"], note["quote"], note["text"], note["replies"], note["solved"])
                 for c, note in self.comments.items()}
        return (self.author, self.time, self.tracking, self.change_authors, row, notes, self.comments_made,
                self.names)
