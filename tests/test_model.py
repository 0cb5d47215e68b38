"""Many lines of calls, made by a fixed seed, against the plain model of the document."""

import random
import unittest

from margintext.pieces import answers, answers_on
from margintext.sheet import Sheet
from tests.helper import (LEAST, LOOKS, MOST, Model, accept, all_of, at, author, bookmark, bookmarks, clock, codes, comment,
                          cut, drop, goto, joined, list_of, move, parted, put, reanchor, reject, reply, rescue, size,
                          solve, spots, state, text, thread, track, unmark, waiting)

NAMES = ["a", "b", "ab", "abcdefghijklmnopqrst"]
NO_NAMES = ["", "A", "abcdefghijklmnopqrstu", "a b"]


class Maker:
    """Makes calls that mostly fit the model's state, and now and then do not."""

    def __init__(self, seed):
        self.random = random.Random(seed)
        self.model = Model()

    def number(self, least, most):
        if self.random.random() < 0.01:
            return self.random.choice([LEAST, MOST])
        return self.random.randint(least, most)

    def place(self):
        return self.number(-1 if self.random.random() < 0.05 else 0, len(self.model.shown()))

    def places(self):
        if self.random.random() < 0.05:
            return [self.place(), self.place()]
        p = self.random.randrange(len(self.model.shown()))
        return [p, p + self.random.randint(1, 4)]

    def signs(self):
        signs = [self.random.choice([10, 97, 98]) for turn in range(self.random.randint(1, 6))]
        roll = self.random.random()
        if roll < 0.03:
            return []
        return signs + [self.random.choice([9, 31, 32, 126, 127, LEAST, MOST])] if roll < 0.1 else signs

    def text(self):
        roll = self.random.random()
        if roll < 0.05:
            return [97] * self.random.choice([0, 200, 201])
        return [self.random.randint(30 if roll < 0.1 else 32, 126) for turn in range(self.random.randint(1, 4))]

    def on(self):
        return self.number(0, 2) if self.random.random() < 0.1 else self.random.randint(0, 1)

    def note(self):
        if self.model.comments and self.random.random() < 0.9:
            return self.random.choice(list(self.model.comments))
        return self.number(0, self.model.comments_made + 1)

    def change(self):
        if self.model.change_authors and self.random.random() < 0.9:
            return self.random.randint(1, len(self.model.change_authors))
        return self.number(-1, len(self.model.change_authors) + 1)

    def name(self):
        return codes(self.random.choice(NO_NAMES if self.random.random() < 0.05 else NAMES))

    def call(self):
        if len(self.model.row) < 4:
            return put(0, "abab\nbbaba")
        roll = self.random.random()
        if roll < 0.45:
            return self.change_text()
        return self.write() if roll < 0.75 else self.look()

    def change_text(self):
        makes = [lambda: author(self.number(1, 3)),
                 lambda: track(1 if self.random.random() < 0.6 else self.on()),
                 lambda: put(self.place(), self.signs()),
                 lambda: put(self.place(), self.signs()),
                 lambda: cut(*self.places()),
                 lambda: cut(*self.places()),
                 lambda: move(*self.places(), self.place()),
                 lambda: move(*self.places(), self.place()),
                 lambda: accept(self.change()),
                 lambda: reject(self.change())]
        return self.random.choice(makes)()

    def write(self):
        makes = [lambda: clock(self.model.time + self.random.randint(-1, 2)),
                 lambda: comment(*self.places(), self.text()),
                 lambda: comment(*self.places(), self.text()),
                 lambda: comment(*self.places(), self.text()),
                 lambda: reply(self.note(), self.text()),
                 lambda: reply(self.note(), self.text()),
                 lambda: solve(self.note(), self.on()),
                 lambda: drop(self.note()),
                 lambda: reanchor(self.note(), *self.places()),
                 lambda: rescue(self.orphan()),
                 lambda: rescue(self.orphan()),
                 lambda: bookmark(*self.places(), self.name()),
                 lambda: bookmark(*self.places(), self.name()),
                 lambda: bookmark(*self.places(), self.name()),
                 lambda: unmark(self.name())]
        return self.random.choice(makes)()

    def look(self):
        makes = [lambda: goto(self.name()),
                 lambda: state(self.note()),
                 lambda: thread(self.note()),
                 lambda: spots(self.note()),
                 lambda: list_of(self.number(-1, 4)),
                 lambda: at(self.place()),
                 lambda: waiting(self.number(0, 4)),
                 lambda: bookmarks(),
                 lambda: text(self.number(-1, 3)),
                 lambda: size()]
        return self.random.choice(makes)()

    def orphan(self):
        orphans = [c for c in self.model.comments if not self.model.carriers(c)]
        return self.random.choice(orphans) if orphans else self.note()


class ModelTest(unittest.TestCase):
    def check_line(self, seed, count):
        """Answers the calls of a line, and what each was answered."""
        maker = Maker(seed)
        sheet = Sheet()
        calls = []
        told = []
        for turn in range(count):
            call = maker.call()
            before = all_of(sheet)
            answer = maker.model.do(call)
            calls.append(call)
            told.append(answer)
            self.assertEqual(parted(answers_on(sheet, call)), [answer], (seed, calls))
            self.assertEqual(all_of(sheet), maker.model.all_of(), (seed, calls))
            if answer[0] < 0 or call[0] > 15:
                self.assertEqual(all_of(sheet), before, (seed, calls))
        self.assertEqual(parted(answers(joined(calls))), told)
        for look in LOOKS + [at(p) for p in range(len(maker.model.shown()))] + [goto(name) for name in NAMES]:
            self.assertEqual(parted(answers_on(sheet, look)), [maker.model.do(look)], (seed, calls, look))
        return list(zip(calls, told))

    def test_short_lines(self):
        for seed in range(400):
            self.check_line(seed, 60)

    def test_long_lines(self):
        seen = []
        for seed in range(1000, 1015):
            seen += self.check_line(seed, 400)
        for number in range(-8, 0):
            self.assertIn(number, [answer[0] for call, answer in seen])
        for number in range(26):
            self.assertTrue([answer for call, answer in seen if call[0] == number and answer[0] >= 0], number)


if __name__ == "__main__":
    unittest.main()
