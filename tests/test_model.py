"""Many lines of calls, made by a fixed seed, against the plain model of the document."""

import random
import unittest

from margintext.pieces import answers, answers_on
from margintext.sheet import Sheet
from tests.helper import (LEAST, MOST, Model, accept, all_of, author, clock, comment, cut, drop, joined, move, parted,
                          put, reanchor, reject, reply, solve, track)


class Maker:
    """Makes calls that mostly fit the model's state, and now and then do not."""

    def __init__(self, seed):
        self.random = random.Random(seed)
        self.model = Model()

    def number(self, least, most):
        if self.random.random() < 0.01:
            return self.random.choice([LEAST, MOST])
        return self.random.randint(least, most)

    def place(self):
        return self.number(-1 if self.random.random() < 0.05 else 0, len(self.model.shown()))

    def places(self):
        both = [self.place(), self.place()]
        return both if self.random.random() < 0.1 else sorted(both)

    def signs(self):
        signs = [self.random.choice([10, 32, 126] + list(range(97, 101))) for turn in range(self.random.randint(1, 6))]
        roll = self.random.random()
        if roll < 0.03:
            return []
        return signs + [self.random.choice([9, 31, 127, LEAST, MOST])] if roll < 0.06 else signs

    def text(self):
        roll = self.random.random()
        if roll < 0.05:
            return [97] * self.random.choice([0, 200, 201])
        return [self.random.randint(30 if roll < 0.1 else 32, 126) for turn in range(self.random.randint(1, 4))]

    def on(self):
        return self.number(0, 2) if self.random.random() < 0.1 else self.random.randint(0, 1)

    def note(self):
        return self.number(0, self.model.comments_made + 1)

    def change(self):
        return self.number(-1 if self.random.random() < 0.1 else 0, len(self.model.change_authors) + 1)

    def call(self):
        kind = self.random.choice(["author", "clock", "track", "put", "put", "put", "cut", "cut", "move", "move",
                                   "move", "accept", "reject", "comment", "comment", "reply", "solve", "drop",
                                   "reanchor"])
        if kind == "author":
            return author(self.number(1, 3))
        if kind == "clock":
            return clock(self.model.time + self.random.randint(-1, 2))
        if kind == "track":
            return track(1 if self.random.random() < 0.6 else self.on())
        if kind == "put":
            return put(self.place(), self.signs())
        if kind == "cut":
            return cut(*self.places())
        if kind == "move":
            return move(*self.places(), self.place())
        if kind == "accept":
            return accept(self.change())
        if kind == "reject":
            return reject(self.change())
        if kind == "comment":
            return comment(*self.places(), self.text())
        if kind == "reply":
            return reply(self.note(), self.text())
        if kind == "solve":
            return solve(self.note(), self.on())
        if kind == "drop":
            return drop(self.note())
        return reanchor(self.note(), *self.places())


class ModelTest(unittest.TestCase):
    def check_line(self, seed, size):
        maker = Maker(seed)
        sheet = Sheet()
        calls = []
        told = []
        for turn in range(size):
            call = maker.call()
            before = all_of(sheet)
            answer = maker.model.do(call)
            calls.append(call)
            told.append([answer])
            self.assertEqual(parted(answers_on(sheet, call)), [[answer]], (seed, calls))
            self.assertEqual(all_of(sheet), maker.model.all_of(), (seed, calls))
            if answer < 0:
                self.assertEqual(all_of(sheet), before, (seed, calls))
        self.assertEqual(parted(answers(joined(calls))), told)
        return [answer for one in told for answer in one]

    def test_short_lines(self):
        for seed in range(400):
            self.check_line(seed, 30)

    def test_long_lines(self):
        seen = []
        for seed in range(1000, 1010):
            seen += self.check_line(seed, 250)
        for number in (-1, -2, -3, -4, -5, -6):
            self.assertIn(number, seen)


if __name__ == "__main__":
    unittest.main()
