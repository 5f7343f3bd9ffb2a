"""Promise 10: a tower and its vehicles' ends, over an air that loses, doubles, delays and mixes up what was sent."""

import random
import unittest

from groundtower.ground import Line, answer_of
from helper import (at, chain, drop, end_at, end_away, end_heard, end_start, end_tick, enter, give, heard, leave,
                    left, run, start, tick)


KINDS = "tick ends bring late lose double away give drop leave enter".split()
# How often each kind comes: in one world by turns, in one with slow vehicles and a quick air, in one that loses much.
MOODS = ((20, 10, 50, 10, 10, 10, 30, 25, 2, 8, 15),
         (50, 90, 90, 10, 5, 10, 5, 25, 2, 8, 15),
         (50, 50, 20, 10, 50, 10, 30, 25, 2, 8, 15))


class Talk:
    """A line of calls that grows: each call is answered as it comes, so that the next may depend on it."""

    def __init__(self):
        self.calls = []
        self.given = []
        self.line = Line([])

    def say(self, call):
        self.line.calls.extend(call)
        answer = answer_of(self.line)
        self.calls.append(call)
        self.given.append(answer)
        return answer


def things_of(answer):
    """What an answer tells: lists that begin with 0, 1 or 2."""
    things = []
    place = 2
    while place < len(answer):
        size = (18, 17, 2)[answer[place]]
        things.append(answer[place:place + size])
        place += size
    assert place == len(answer) and len(things) == answer[1], answer
    return things


class World:
    """A ground with vehicles that truly move, and all that was ever sent between them and the tower.

    Up to three vehicles' ends share the tower's line; more lie on lines of their own, three on each.
    """

    def __init__(self, test, rng, n, pairs, most):
        self.test = test
        self.rng = rng
        self.n = n
        self.near = {k: sorted({a + b - k for a, b in pairs if k in (a, b)} - {k}) for k in range(n)}
        self.numbers = rng.sample(range(64), most)
        self.tower = Talk()
        self.talks = [Talk() for _ in range(0, most, 3)] if most > 3 else [self.tower]
        self.end = {v: (self.talks[k // 3], k % 3) for k, v in enumerate(self.numbers)}
        # Of each vehicle that is there: the pieces on which it truly is, and where it was to go.
        self.on = {}
        self.goal = {}
        # Those that were told to go, and weren't heard by the tower since.
        self.unheard = {}
        self.air = []
        self.sent = []
        self.seen = set()
        self.mood = rng.choice(MOODS)
        test.assertEqual(self.tower.say(start(n, pairs)), [0, 0])

    def send(self, frame):
        self.air.append(frame)
        self.sent.append(frame)

    def say_to_end(self, call, v):
        talk, end = self.end[v]
        return talk.say(call(end))

    def check(self):
        pieces = [piece for on in self.on.values() for piece in on]
        self.test.assertEqual(len(pieces), len(set(pieces)), self.on)

    def enter(self, v, piece):
        number = self.tower.say(enter(v, piece))[0]
        self.seen.add(("enter", min(number, 1)))
        if number >= 0:
            talk, end = self.end[v]
            self.test.assertEqual(talk.say(end_start(end, v, piece, number)), [0, 0])
            self.on[v] = [piece]
            self.goal[v] = piece
            self.unheard[v] = False
            self.check()

    def leave(self, v):
        answer = self.tower.say(leave(v))[0]
        self.seen.add(("leave", answer))
        if answer == 0:
            for kept in (self.on, self.goal, self.unheard):
                del kept[v]

    def give(self, v, way):
        answer = self.tower.say(give(v, way))[0]
        self.seen.add(("give", answer))
        if answer == 0:
            self.goal[v] = way[-1]

    def drop(self, v):
        answer = self.tower.say(drop(v))[0]
        self.seen.add(("drop", answer))
        if answer == 0:
            self.goal[v] = self.tower.say(at(v))[0]

    def left(self):
        return sum(self.tower.say(left(v))[0] for v in self.on)

    def tick_tower(self):
        is_to_move = self.left() > 0 and not any(self.unheard.values())
        things = things_of(self.tower.say(tick()))
        # As long as one is under way something moves, or something is to be heard yet.
        self.test.assertTrue(things or not is_to_move)
        for thing in things:
            self.test.assertEqual(thing[0], 0)
            self.seen.add("told again" if self.unheard[thing[1]] else "told")
            self.unheard[thing[1]] = True
            self.send(thing[2:])

    def tick_end(self, v):
        for thing in things_of(self.say_to_end(end_tick, v)):
            self.test.assertEqual(thing[0], 1)
            self.seen.add("sent again")
            self.send(thing[1:])

    def away(self, v):
        answer = self.say_to_end(end_away, v)
        self.test.assertEqual(answer[0], 0 if len(self.on[v]) == 2 else -2)
        for thing in things_of(answer):
            self.send(thing[1:])
            self.on[v] = self.on[v][1:]
        self.check_end(v)

    def bring(self, frame):
        """The air brings a frame to whom it was sent."""
        if frame[0] == 2:
            answer = self.tower.say(heard(frame))
            self.seen.add(("heard", answer[0]))
            if answer == [1, 0]:
                self.unheard[frame[1]] = False
            else:
                self.test.assertEqual(answer, [0, 0])
        else:
            self.bring_to_end(frame[1], frame)

    def bring_to_end(self, v, frame):
        answer = self.say_to_end(lambda end: end_heard(end, frame), v)
        self.test.assertIn(answer[0], (0, 1))
        self.seen.add(("end heard", answer[0], answer[1]))
        for thing in things_of(answer):
            if thing[0] == 2:
                # One that has left, or is going yet, is never told to go; and never goes through the air.
                self.test.assertEqual(len(self.on[v]), 1)
                self.test.assertIn(thing[1], self.near[self.on[v][0]])
                self.on[v] = [self.on[v][0], thing[1]]
                self.check()
            else:
                self.send(thing[1:])
        if v in self.on:
            self.check_end(v)

    def check_end(self, v):
        on = self.on[v]
        self.test.assertEqual(self.say_to_end(end_at, v), [on[-1] + 256 * (len(on) == 2), 0])

    def some_way(self, v):
        place = self.tower.say(at(v))[0]
        way = []
        whole = [place]
        longest = self.rng.choice((2, 4, 8, 20))
        while len(way) < longest:
            steps = [piece for piece in self.near[place] if piece not in whole]
            if not steps:
                break
            place = self.rng.choice(steps)
            whole.append(place)
            way.append(place)
        return way

    def step(self):
        kind = self.rng.choices(KINDS, self.mood)[0]
        there = sorted(self.on)
        v = self.rng.choice(there) if there else None
        if kind == "tick":
            self.tick_tower()
        elif kind == "enter":
            self.enter(self.rng.choice(self.numbers), self.rng.randrange(self.n))
        elif kind == "bring" and self.air:
            self.bring(self.air.pop(self.rng.randrange(len(self.air))))
        elif kind == "late" and self.sent:
            self.bring(self.rng.choice(self.sent))
        elif kind == "double" and self.air:
            self.bring(self.rng.choice(self.air))
        elif kind == "lose" and self.air:
            self.air.pop(self.rng.randrange(len(self.air)))
        elif there and kind == "ends":
            self.tick_end(v)
        elif there and kind in ("away", "drop", "leave"):
            getattr(self, kind)(v)
        elif there and kind == "give":
            self.give(v, self.some_way(v))

    def calm_round(self, is_slow):
        """Ten ticks of all, each heard by all, at once or, if it is slow, when all ten have been."""
        self.air = []
        for _ in range(10):
            self.tick_tower()
            for v in sorted(self.on):
                self.tick_end(v)
            if not is_slow:
                self.hear_all()
        self.hear_all()

    def hear_all(self):
        """What was told to go goes; and what was sent long ago still comes now and then."""
        while self.air or any(len(on) == 2 for on in self.on.values()):
            going = [v for v in sorted(self.on) if len(self.on[v]) == 2]
            if self.air and (not going or self.rng.random() < 0.5):
                self.bring(self.air.pop(self.rng.randrange(len(self.air))))
            else:
                self.away(self.rng.choice(going))
            if self.rng.random() < 0.1 and self.sent:
                self.bring(self.rng.choice(self.sent))

    def come_to_the_end(self):
        rounds = self.left() + 1
        is_slow = self.rng.random() < 0.5
        for _ in range(rounds):
            self.calm_round(is_slow)
        for v in self.on:
            self.test.assertEqual(self.on[v], [self.goal[v]])
            self.test.assertEqual(self.tower.say(at(v)), [self.goal[v], 0])
            self.test.assertEqual(self.tower.say(left(v)), [0, 0])
            self.check_end(v)
        return rounds

    def check_lines(self):
        """What was answered call by call is what a whole line answers."""
        for talk in [self.tower] + self.talks:
            if talk.calls:
                self.test.assertEqual(run(*talk.calls[:600]), talk.given[:600])


def ring(rng, most):
    """A ring with a stand or two near each of its pieces."""
    size = rng.randint(3, 3 + most)
    pairs = [(k, (k + 1) % size) for k in range(size)]
    stands = [(rng.randrange(size) if k >= size else k, size + k) for k in range(size + rng.randint(0, most))]
    return size + len(stands), pairs + stands


def track(rng, most):
    """A single track with stands at both ends, and at times a place to wait near its middle."""
    size = rng.randint(1, 6)
    ends = [(0, size + k) for k in range(most)] + [(size - 1, size + most + k) for k in range(most)]
    aside = [(size // 2, size + 2 * most)] if rng.random() < 0.5 else []
    return size + 2 * most + len(aside), chain(size) + ends + aside


def crossings(rng, most):
    """Four by four pieces with stands round them: ways meet and cross."""
    across = [(4 * row + k, 4 * row + k + 1) for row in range(4) for k in range(3)]
    along = [(4 * row + k, 4 * row + k + 4) for row in range(3) for k in range(4)]
    outer = [0, 1, 2, 3, 7, 11, 15, 14, 13, 12, 8, 4]
    return 28, across + along + [(piece, 16 + k) for k, piece in enumerate(outer)]


class AirTest(unittest.TestCase):
    def play(self, ground, seeds, most):
        """Plays many worlds; gives back what was seen, how many vehicles came along, and how many rounds it took."""
        seen = set()
        moved = rounds = 0
        for seed in seeds:
            with self.subTest(seed=seed):
                rng = random.Random(seed)
                world = World(self, rng, *ground(rng, most), most)
                for v in world.numbers:
                    world.enter(v, rng.randrange(world.n))
                for _ in range(rng.randint(20, 400)):
                    world.step()
                for v in sorted(world.on):
                    world.give(v, world.some_way(v))
                rounds += world.come_to_the_end() - 1
                moved += len(world.on)
                world.check_lines()
                seen |= world.seen
        return seen, moved, rounds

    def check(self, ground, seeds, most):
        seen, moved, rounds = self.play(ground, seeds, most)
        # What the plays are worth: all that may come up came up.
        every = {("enter", -22), ("enter", -2), ("enter", 0), ("enter", 1), ("leave", -2), ("leave", 0),
                 ("give", -2), ("give", -11), ("give", 0), ("drop", -2), ("drop", 0), "told", "told again",
                 "sent again", ("heard", 0), ("heard", 1), ("end heard", 0, 0), ("end heard", 0, 1),
                 ("end heard", 1, 1)}
        self.assertLessEqual(every, seen)
        self.assertGreater(moved, len(seeds) * most // 2)
        self.assertGreater(rounds, len(seeds))

    def test_three_in_a_ring(self):
        self.check(ring, range(100), 3)

    def test_head_on(self):
        self.check(track, range(100, 200), 3)

    def test_crossings(self):
        self.check(crossings, range(200, 300), 3)

    def test_many_in_a_ring(self):
        self.check(ring, range(300, 360), 9)

    def test_many_head_on(self):
        self.check(track, range(400, 460), 9)

    def test_many_at_crossings(self):
        self.check(crossings, range(500, 560), 9)


if __name__ == "__main__":
    unittest.main()
