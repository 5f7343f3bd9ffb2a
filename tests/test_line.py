"""The interface: how calls and answers are written, that nothing is changed or kept, and large lines."""

import random
import unittest

from groundtower.ground import answers
from helper import (TOP, Reference, at, chain, come_clear, come_clear_soon, drop, end_at, end_away, end_heard,
                    end_start, end_tick, enter, flat, frame, give, go, leave, left, run, sent, stands, start, tick,
                    told)


class Untouched(list):
    """A list that cannot be changed, not for a while either."""

    def refuse(self, *arguments, **keywords):
        raise RuntimeError("what is handed in was changed")

    append = extend = insert = pop = remove = clear = sort = reverse = refuse
    __setitem__ = __delitem__ = __iadd__ = __imul__ = refuse


def by_the_words(calls, clear=come_clear):
    """The whole list that is to be given back."""
    tower = Reference(clear)
    row = []
    for call in calls:
        answer = tower.call(call)
        row += [len(answer)] + answer
    return row


class WrittenTest(unittest.TestCase):
    def test_word_by_word(self):
        calls = [0, 3, 4, 0, 1, 1, 2,  1, 7, 0,  3, 7, 2, 1, 2,  6,  2, 7,  4, 7,  4, 7]
        self.assertEqual(answers(calls), [2, 0, 0,  2, 0, 0,  2, 0, 0,  20, 0, 1, 0, 7] + frame(1, 7, 1, 1)
                         + [2, -2, 0,  2, 0, 0,  2, -2, 0])

    def test_the_ends_word_by_word(self):
        calls = [9, 2, 7, 5, 0,  13, 2,  11, 2,  10, 2, 16] + frame(1, 7, 6, 1) + [13, 2,  12, 2,  11, 2,  13, 2]
        calls += [10, 2, 16] + frame(1, 7, 6, 1) + [10, 2, 16] + [0] * 16 + [9, 2, 64, 0, 0]
        self.assertEqual(answers(calls), [2, 0, 0,  2, 5, 0,  2, -2, 0,  4, 1, 1, 2, 6,  2, 262, 0,  2, 0, 0]
                         + [19, 0, 1, 1] + frame(2, 7, 6, 1) + [2, 6, 0] + [19, 0, 1, 1] + frame(2, 7, 6, 1)
                         + [2, -71, 0,  2, -22, 0])

    def test_the_questions_word_by_word(self):
        calls = [0, 3, 4, 0, 1, 1, 2,  1, 7, 0,  3, 7, 2, 1, 2,  7, 7,  8, 7,  7, 8,  8, TOP]
        self.assertEqual(answers(calls)[9:], [2, 0, 0,  2, 2, 0,  2, -22, 0,  2, -22, 0])

    def test_both_mixed(self):
        calls = [end_start(0, 1, 0, 0), start(3, chain(3)), enter(1, 0), end_at(0), give(1, [1]), end_tick(0), tick(),
                 end_start(1, 2, 2, 2), end_heard(0, frame(1, 1, 1, 1)), at(1), end_at(0), end_away(0),
                 stands(1, 1, 1), end_at(1), left(1)]
        self.assertEqual(answers(flat(calls)), by_the_words(calls))

    def test_numbers_that_are_no_calls(self):
        for number in (-1, 14, 15):
            self.assertRaises(ValueError, answers, [0, 1, 0, number, 0, 0, 0])

    def test_two_told_in_one_tick(self):
        calls = flat([start(4, [(0, 1), (2, 3)]), enter(1, 0), enter(2, 2), give(1, [1]), give(2, [3]), tick()])
        self.assertEqual(answers(calls)[15:], [38, 0, 2] + go(1, 1, 1) + go(2, 3, 1))

    def test_a_refusal_is_two_numbers(self):
        self.assertEqual(answers([0, 0, 0]), [2, -22, 0])
        self.assertEqual(answers([0, 1, 0, 5, 16] + [0] * 16), [2, 0, 0, 2, -71, 0])

    def test_one_call(self):
        self.assertEqual(answers([0, 256, 0]), [2, 0, 0])

    def test_answers_are_a_list_of_whole_numbers(self):
        calls = flat([start(4, chain(4)), enter(1, 0), give(1, [1]), tick(), stands(1, 1, 1), at(1), left(1), leave(1),
                      leave(1), end_start(0, 1, 0, 0), end_heard(0, frame(1, 1, 1, 1)), end_at(0), end_away(0),
                      end_at(0), end_away(0), end_tick(0)])
        given = answers(calls)
        self.assertIs(list, type(given))
        self.assertEqual({type(number) for number in given}, {int})


class KeptTest(unittest.TestCase):
    CALLS = [start(6, chain(6)), enter(1, 0), give(1, [1, 2, 3]), tick(), stands(1, 1, 1), tick(), enter(2, 5),
             give(2, [4, 3]), give(2, [4]), tick(), drop(1), leave(1), stands(1, 2, 2), leave(1), leave(1), at(2),
             left(2), end_start(0, 1, 0, 0), end_start(1, 2, 5, 1), end_heard(0, frame(1, 1, 1, 1)), end_at(0),
             end_away(0), end_heard(0, frame(1, 1, 1, 1)), end_heard(1, frame(1, 1, 1, 1)), end_at(0)]
    CALLS += [end_tick(1)] * 10 + [end_start(0, 64, 0, 0), end_away(0), tick()]

    def test_what_is_handed_in_stays(self):
        calls = flat(self.CALLS)
        given = answers(calls)
        self.assertEqual(calls, flat(self.CALLS))
        self.assertEqual(answers(Untouched(calls)), given)

    def test_a_second_time_the_same(self):
        first = answers(flat(self.CALLS))
        answers(flat([start(3, chain(3)), enter(1, 2), give(1, [1]), tick()]))
        self.assertEqual(first, by_the_words(self.CALLS))
        self.assertEqual(answers(flat(self.CALLS)), first)

    def test_no_end_is_kept(self):
        calls = flat([end_start(0, 1, 2, 3)] + [end_tick(0)] * 9)
        self.assertEqual([answers(calls) for _ in range(3)], [[2, 0, 0] * 10] * 3)
        again = [end_start(0, 1, 2, 3), end_tick(0), end_at(0), end_away(0)]
        self.assertEqual(run(*again), [[0, 0], [0, 0], [2, 0], [-2, 0]])

    def test_what_is_given_back_is_ones_own(self):
        first = answers(flat(self.CALLS))
        kept = list(first)
        first.clear()
        self.assertEqual(answers(flat(self.CALLS)), kept)


class LargeTest(unittest.TestCase):
    # A track of 60 pieces, 0 to 59, with 64 stands at one end, 64 to 127, and 64 at the other, 128 to 191.
    TRACK = start(256, chain(60) + [(0, 64 + k) for k in range(64)] + [(59, 128 + k) for k in range(64)])

    def drive(self, calls, most):
        """Adds ticks, and what the vehicles send upon them, till there are most calls; gives back all told."""
        numbers = []
        while len(calls) < most:
            calls.append(tick())
            answer = run(*calls)[-1]
            things = [answer[2 + 18 * k:20 + 18 * k] for k in range(answer[1])]
            numbers.append([(thing[1], thing[4], thing[6]) for thing in things])
            calls += [stands(v, piece, number) for v, piece, number in numbers[-1]][:most - len(calls)]
        return numbers

    def test_64_one_behind_another(self):
        calls = [self.TRACK] + [enter(v, 64 + v) for v in range(64)]
        calls += [give(v, list(range(60)) + [128 + v]) for v in range(64)]
        numbers = self.drive(calls, 600)
        self.assertEqual(len(calls), 600)
        self.assertEqual(run(*calls)[:129], [[0, 0]] * 129)
        self.assertEqual(numbers[0], [(0, 0, 1)])
        self.assertEqual(numbers[1], [(0, 1, 2)])
        # The piece behind the first is heard to be left only between two ticks: then two move at once.
        self.assertEqual(numbers[2], [(0, 2, 3), (1, 0, 1)])

    def test_64_from_both_ends(self):
        calls = [self.TRACK] + [enter(v, 64 + v) for v in range(32)] + [enter(v, 96 + v) for v in range(32, 64)]
        calls += [give(v, list(range(60)) + [160 + v]) for v in range(32)]
        calls += [give(v, list(range(59, -1, -1)) + [64 + v]) for v in range(32, 64)]
        numbers = self.drive(calls, 600)
        self.assertEqual(run(*calls)[:129], [[0, 0]] * 129)
        moved = {v for moves in numbers for v, piece, number in moves}
        self.assertTrue(moved <= set(range(32)), moved)

    def test_many_are_held_back_in_each_tick(self):
        # One lies on a track of 60 pieces; beside each further piece one waits that wants to come the other way.
        beside = [(v, 60 + v) for v in range(1, 60)]
        ends = [(0, 120 + v) for v in range(1, 64)] + [(59, 190)]
        calls = [start(256, chain(60) + beside + ends), enter(0, 120 + 61), give(0, list(range(60)) + [190]), tick()]
        calls += [enter(v, 60 + v) for v in range(1, 60)]
        calls += [give(v, list(range(v, -1, -1)) + [120 + v]) for v in range(1, 60)]
        calls += [tick()] * (600 - len(calls))
        rows = run(*calls)
        self.assertEqual(rows[:3], [[0, 0]] * 3)
        self.assertEqual(rows[3], told(go(0, 0, 1)))
        self.assertEqual(rows[4:122], [[0, 0]] * 118)
        again = [told(go(0, 0, 1)) if k % 10 == 0 else told() for k in range(2, 480)]
        self.assertEqual(rows[122:], again)

    def test_600_ticks_of_an_end(self):
        rows = run(end_start(2, 63, 255, 1), *[end_tick(2)] * 599)
        self.assertEqual(rows, [[0, 0]] + [sent(63, 255, 1) if k % 10 == 0 else [0, 0] for k in range(1, 600)])

    def test_a_list_of_almost_30000(self):
        wide = start(256, [(k, (k + step) % 256) for k in range(256) for step in (1, 16, 37, 101)])
        calls = [end_start(0, 5, 0, 0), enter(5, 0), give(5, [1, 17]), tick(), end_heard(0, frame(1, 5, 1, 1)), at(5)]
        calls = (calls[:1] + [wide] + calls[1:]) * 14
        self.assertGreater(len(flat(calls)), 29000)
        self.assertLess(len(flat(calls)), 30000)
        self.assertEqual(answers(Untouched(flat(calls))), by_the_words(calls))

    def test_a_large_line_by_the_words(self):
        rng = random.Random(7)
        pairs = [(k, (k + step) % 256) for k in range(256) for step in (1, 16, 37, 101)]
        calls = [start(256, pairs)]
        tower = Reference(come_clear_soon)
        tower.call(calls[0])
        near = {k: sorted({b for a, b in pairs if a == k} | {a for a, b in pairs if b == k}) for k in range(256)}

        def say(call):
            calls.append(call)
            return tower.call(call)

        places = rng.sample(range(256), 64)
        for v in range(64):
            self.assertEqual(say(enter(v, places[v])), [0, 0])
        for v in range(64):
            say(give(v, long_way(rng, near, tower, v)))
        self.assertGreater(sum(len(way) for way in tower.way.values()), 64 * 8)
        while len(calls) < 600:
            answer = say(tick())
            for k in range(answer[1]):
                thing = answer[2 + 18 * k:20 + 18 * k]
                if len(calls) < 600 and rng.random() < 0.8:
                    say(stands(thing[1], thing[4], thing[6]))
        self.assertEqual(len(calls), 600)
        self.assertEqual(answers(Untouched(flat(calls))), by_the_words(calls, come_clear_soon))


def long_way(rng, near, tower, v):
    """The longest of some ways that fit v, by chance; [] where none was found."""
    barred = {tower.goal(u) for u in tower.at if u != v}
    crossed = {piece for u in tower.at if u != v for piece in tower.way[u]}
    best = []
    for _ in range(30):
        way = []
        at = tower.at[v]
        while len(way) < 64:
            steps = [k for k in near[at] if k not in barred and k not in way and k != tower.at[v]]
            if not steps:
                break
            at = rng.choice(steps)
            way.append(at)
            if at not in crossed and len(way) > len(best):
                best = list(way)
    return best


if __name__ == "__main__":
    unittest.main()
