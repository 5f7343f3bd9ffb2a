"""Promises 1 to 9 together: lines by chance, with much in one another's way, against the document's words."""

import random
import unittest

from groundtower.ground import answers
from helper import (TOP, Reference, at, come_clear, come_clear_soon, drop, end_at, end_away, end_heard, end_start,
                    end_tick, enter, flat, frame, give, heard, leave, left, run, start, tick)


class Chance:
    """Makes lines of calls that mostly get somewhere, and knows what they are to answer."""

    def __init__(self, seed):
        self.rng = random.Random(seed)
        self.tower = Reference()
        self.air = [frame(2, 0, 0, 1), frame(1, 0, 0, 1)]
        self.calls = []
        self.wanted = []

    def say(self, call):
        answer = self.tower.call(call)
        self.calls.append(call)
        self.wanted.append(answer)
        if call[0] == 6:
            for k in range(answer[1]):
                thing = answer[2 + 18 * k:20 + 18 * k]
                self.air += [thing[2:], frame(2, thing[1], thing[4], thing[6])]
        elif answer[1:3] == [1, 1]:
            self.air.append(answer[3:])

    def begin(self):
        # A track with stands beside it, and a few pairs more: most ways meet on the track.
        n = self.rng.randint(6, 24)
        track = self.rng.randint(2, n // 2)
        pairs = [(k, k - 1 if k < track else self.rng.randrange(track)) for k in range(1, n)]
        pairs += [(self.rng.randrange(n), self.rng.randrange(n)) for _ in range(self.rng.randint(0, 3))]
        self.near = {k: sorted({a + b - k for a, b in pairs if k in (a, b)}) for k in range(n)}
        self.say(start(n, pairs))

    def some_vehicle(self, is_new):
        """Mostly one that is there, or if a new one is asked for one that isn't."""
        apt = [v for v in (0, 1, 2, 3, 4, 5, 6, 63) if (v in self.tower.at) != is_new]
        return self.rng.choice(apt) if apt and self.rng.random() < 0.9 else self.rng.choice((0, 1, 2, 63, 64))

    def some_way(self, v):
        at = self.tower.at.get(v, 0)
        way = []
        while len(way) < 10:
            steps = [k for k in self.near[at] if k not in way and k != self.tower.at.get(v)]
            if not steps or self.rng.random() < 0.1:
                break
            at = self.rng.choice(steps)
            way.append(at)
        if self.rng.random() < 0.05:
            way.append(self.rng.randrange(self.tower.n + 1))
        return way

    def some_frame(self, kind, v=None):
        """Mostly one of the last of that kind, and for that vehicle."""
        apt = [sent for sent in self.air if sent[0] == kind and v in (None, sent[1])]
        sent = list(self.rng.choice(apt[-4:] if apt and self.rng.random() < 0.9 else self.air[-8:]))
        if self.rng.random() < 0.05:
            sent[self.rng.randrange(16)] ^= 1 << self.rng.randrange(8)
        return sent

    def step_of_end(self):
        end = self.rng.randrange(3)
        kinds = "start heard away tick at".split()
        kind = self.rng.choices(kinds, (4, 40, 20, 30, 10))[0] if end in self.tower.ends else "start"
        if kind == "start":
            v = self.some_vehicle(False)
            piece = self.rng.choice((self.tower.at.get(v, 255), 255, 256))
            number = self.tower.number[v % 64]
            self.say(end_start(end, v, piece, self.rng.choice((number, number, 0, 2147483647, 2147483648, TOP))))
        elif kind == "heard":
            self.say(end_heard(end, self.some_frame(1, self.tower.ends[end].v)))
        else:
            self.say({"away": end_away, "tick": end_tick, "at": end_at}[kind](end))

    def step(self):
        if self.rng.random() < 0.3:
            self.step_of_end()
        else:
            self.step_of_tower()

    def step_of_tower(self):
        """By turns mostly ways are given, and mostly vehicles move, so that many are under way at once."""
        giving = len(self.calls) // 40 % 2 == 0
        kinds = "enter leave give drop heard tick at left".split()
        kind = self.rng.choices(kinds, (40, 5, 60, 4, 3, 2, 1, 1) if giving else (3, 1, 6, 1, 45, 45, 3, 3))[0]
        v = self.some_vehicle(kind == "enter")
        if kind == "enter":
            self.say(enter(v, self.rng.randrange(self.tower.n + 1)))
        elif kind == "leave":
            self.say(leave(v))
        elif kind == "give":
            self.say(give(v, self.some_way(v)))
        elif kind == "drop":
            self.say(drop(v))
        elif kind == "heard":
            self.say(heard(self.some_frame(2)))
        elif kind in ("at", "left"):
            self.say({"at": at, "left": left}[kind](v))
        elif self.rng.random() < 0.99:
            self.say(tick())
        else:
            self.begin()


class WordsTest(unittest.TestCase):
    def test_lines_by_chance(self):
        seen = set()
        told = set()
        held_back = 0
        for seed in range(300):
            chance = Chance(seed)
            chance.begin()
            while len(chance.calls) < 400:
                chance.step()
            self.assertEqual(run(*chance.calls), chance.wanted, seed)
            held_back += chance.tower.held_back
            seen |= {(call[0], min(answer[0], 2)) for call, answer in zip(chance.calls, chance.wanted)}
            told |= {(call[0], answer[2]) for call, answer in zip(chance.calls, chance.wanted) if answer[1]}
        # What the lines are worth: each answer of each call came up, and rings were kept from closing.
        every = {(0, 0), (1, -22), (1, -2), (1, -11), (1, 0), (2, -22), (2, -2), (2, 0), (3, -22), (3, -2), (3, -11),
                 (3, 0), (4, -22), (4, -2), (4, -11), (4, 0), (5, -71), (5, 0), (5, 1), (6, 0), (7, -22), (7, 2),
                 (8, -22), (8, 0), (8, 2), (9, -22), (9, 0), (10, -71), (10, 0), (10, 1), (11, -2), (11, 0), (12, 0),
                 (13, 0), (13, 2)}
        self.assertLessEqual(every, seen)
        self.assertEqual(told, {(6, 0), (10, 1), (10, 2), (11, 1), (12, 1)})
        self.assertGreater(held_back, 500)


class LargeTest(unittest.TestCase):
    def test_600_calls_of_all_fourteen_kinds(self):
        for seed in range(1000, 1020):
            chance = Chance(seed)
            chance.begin()
            while len(chance.calls) < 599:
                chance.step()
            chance.begin()
            counts = [sum(call[0] == kind for call in chance.calls) for kind in range(14)]
            self.assertEqual(sum(counts), 600)
            self.assertGreater(min(counts), 1, counts)
            calls = flat(chance.calls)
            row = answers(calls)
            self.assertEqual(calls, flat(chance.calls))
            self.assertEqual(row, [number for answer in chance.wanted for number in [len(answer)] + answer])
            self.assertEqual(answers(calls), row)


class ReferenceTest(unittest.TestCase):
    def test_any_order_comes_clear_alike(self):
        # The large lines rest on it; it holds where no goal lies on another one's way, as on the tower's ground.
        rng = random.Random(3)
        both = set()
        for _ in range(3000):
            state = self.state(rng)
            self.assertEqual(come_clear(state), come_clear_soon(state), state)
            both.add(come_clear(state))
        self.assertEqual(both, {True, False})

    @staticmethod
    def state(rng):
        pieces = rng.sample(range(12), 4)
        goals = rng.sample(range(20, 30), 4)
        between = [[k for k in rng.sample(range(12), rng.randint(0, 4)) if k != piece] for piece in pieces]
        return {v: (pieces[v], tuple(between[v] + [goals[v]])) for v in range(4)}


if __name__ == "__main__":
    unittest.main()
