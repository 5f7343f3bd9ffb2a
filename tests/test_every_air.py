"""Promise 10 on small grounds, gone through whole: all that an air can do with what was ever sent.

What was sent once may come at any time, as often as it likes, so a state of the world is where tower and ends are and
the set of what was sent; a state is reached by a line of calls, and the line is run anew for each step out of it.
"""

import unittest

from helper import at, chain, end_at, end_away, end_heard, end_start, enter, give, heard, left, run, start, tick


class Whole:
    """All states that are reached from one line of calls, with up to three vehicles, the end k being vehicle k."""

    def __init__(self, n, pairs, places, ways):
        self.count = len(places)
        self.places = tuple(places)
        self.goals = tuple(way[-1] if way else place for place, way in zip(places, ways))
        begun = [start(n, pairs)]
        for v, place in enumerate(places):
            begun += [enter(v, place), end_start(v, v, place, 0)]
        self.begun = begun + [give(v, way) for v, way in enumerate(ways) if way]
        assert all(row == [0, 0] for row in run(*self.begun))
        self.probes = [probe(v) for v in range(self.count) for probe in (at, left, end_at)]
        # For each state the line that led there, and the states that one step leads to.
        self.lines = {}
        self.steps = {}

    def state_of(self, line, sent, heard_of):
        rows = run(*self.begun, *line, *self.probes)[-len(self.probes):]
        return tuple(row[0] for row in rows), sent, heard_of

    def moves(self, state):
        numbers, sent, heard_of = state
        calls = [tick()] + [end_away(v) for v in range(self.count)]
        calls += [heard(list(frame)) if frame[0] == 2 else end_heard(frame[1], list(frame)) for frame in sorted(sent)]
        return calls

    def step(self, state, call):
        numbers, sent, heard_of = state
        line = self.lines[state] + [call]
        answer = run(*self.begun, *line)[-1]
        new = set(sent)
        place = 2
        while place < len(answer):
            size = (18, 17, 2)[answer[place]]
            if size > 2:
                new.add(tuple(answer[place:place + size][-16:]))
            place += size
        # Which numbers the tower has heard of: with it a state tells whether a piece lies behind a vehicle.
        known = heard_of | {call[3] * 1000 + call[6]} if call[0] == 5 and answer[0] == 1 else heard_of
        return line, self.state_of(line, frozenset(new), known)

    def explore(self):
        first = self.state_of([], frozenset(), frozenset())
        self.lines[first] = []
        waiting = [first]
        while waiting:
            state = waiting.pop()
            self.steps[state] = set()
            for call in self.moves(state):
                line, reached = self.step(state, call)
                self.steps[state].add(reached)
                if reached not in self.lines:
                    self.lines[reached] = line
                    waiting.append(reached)
        return self

    def from_where(self, state):
        """For each vehicle the piece that it is on, and while it is going the one from which it goes."""
        line = self.lines[state]
        pieces = list(self.places)
        rows = run(*self.begun, *line, *self.probes)
        for call, row in zip(line, rows[len(self.begun):]):
            if call[0] == 11 and row[0] == 0:
                # The answer's frame tells where it stands now.
                pieces[call[1]] = row[5]
        ends = [state[0][3 * v + 2] for v in range(self.count)]
        return [[pieces[v], ends[v] - 256] if ends[v] >= 256 else [ends[v]] for v in range(self.count)]

    def is_there(self, state):
        numbers = state[0]
        return all(numbers[3 * v:3 * v + 3] == (self.goals[v], 0, self.goals[v]) for v in range(self.count))

    def that_come_there(self):
        """The states from which some steps lead each vehicle to where it was to go."""
        before = {state: [] for state in self.steps}
        for state, reached in self.steps.items():
            for other in reached:
                before[other].append(state)
        found = {state for state in self.steps if self.is_there(state)}
        waiting = list(found)
        while waiting:
            for state in before[waiting.pop()]:
                if state not in found:
                    found.add(state)
                    waiting.append(state)
        return found


class EveryAirTest(unittest.TestCase):
    def check(self, least, *world):
        whole = Whole(*world).explore()
        self.assertGreater(len(whole.steps), least)
        for state in whole.steps:
            pieces = [piece for on in whole.from_where(state) for piece in on]
            self.assertEqual(len(pieces), len(set(pieces)), whole.lines[state])
            if not whole.is_there(state):
                self.assertNotEqual(whole.steps[state], {state}, whole.lines[state])
        self.assertEqual(whole.that_come_there(), set(whole.steps))

    def test_two_head_on(self):
        # A single track 1, 2 with two stands at each end.
        pairs = [(0, 1), (3, 1), (1, 2), (2, 4), (2, 5)]
        self.check(20, 6, pairs, [0, 4], [[1, 2, 5], [2, 1, 3]])

    def test_two_head_on_with_a_place_to_wait(self):
        self.check(50, 7, chain(5) + [(2, 5), (1, 6)], [0, 4], [[1, 2, 5], [3, 2, 1, 6]])

    def test_three_in_a_ring(self):
        # Near each piece of the ring a stand to come from and one to go to.
        pairs = [(0, 1), (1, 2), (2, 0), (0, 3), (1, 4), (2, 5), (0, 6), (1, 7), (2, 8)]
        self.check(150, 9, pairs, [3, 4, 5], [[0, 1, 7], [1, 2, 8], [2, 0, 6]])

    def test_one_behind_another(self):
        # The last one wants to where the first one stood.
        pairs = chain(4) + [(2, 4), (1, 5)]
        self.check(40, 6, pairs, [2, 1, 0], [[3], [2, 4], [1, 5]])


if __name__ == "__main__":
    unittest.main()
