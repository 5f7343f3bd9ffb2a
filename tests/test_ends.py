"""Promises 7 to 9: the vehicles' ends."""

import unittest

from helper import (TOP, end_at, end_away, end_heard, end_start, end_tick, enter, frame, give, go, goes, heard,
                    number_of, run, sent, start, tick, told, with_check)

LAST = 2147483647
# End 1 is vehicle 5, on piece 9, with the number 3.
BEGUN = [end_start(1, 5, 9, 3)]
# It is told to go to 10, and has the number 4.
GOING = BEGUN + [end_heard(1, frame(1, 5, 10, 4))]
# It has left 9.
AWAY = GOING + [end_away(1)]


def after(before, *calls):
    return run(*before, *calls)[len(before):]


class StartTest(unittest.TestCase):
    def test_the_edges(self):
        for v, piece, number, answer in ((0, 0, 0, 0), (63, 255, LAST, 0), (63, 0, 0, 0), (64, 0, 0, -22),
                                         (0, 255, 0, 0), (0, 256, 0, -22), (0, 0, LAST, 0), (0, 0, LAST + 1, -22),
                                         (TOP, 0, 0, -22), (0, TOP, 0, -22), (0, 0, TOP, -22), (TOP, TOP, TOP, -22),
                                         (64, 256, 0, -22), (64, 0, LAST + 1, -22), (0, 256, LAST + 1, -22)):
            for end in (0, 1, 2):
                self.assertEqual(number_of(end_start(end, v, piece, number)), answer, (v, piece, number))

    def test_it_stands_there(self):
        for piece in (0, 1, 128, 255):
            self.assertEqual(after([end_start(2, 7, piece, 0)], end_at(2)), [[piece, 0]])

    def test_it_is_that_vehicle(self):
        for v in (0, 1, 62, 63):
            self.assertEqual(after([end_start(0, v, 4, 6)], end_heard(0, frame(1, v, 7, 6))), [sent(v, 4, 6)])

    def test_it_has_that_number(self):
        for number in (1, 2, 255, 256, 65536, 16777216, LAST):
            self.assertEqual(after([end_start(0, 8, 4, number)], end_heard(0, frame(1, 8, 7, number))),
                             [sent(8, 4, number)])

    def test_it_is_not_going(self):
        self.assertEqual(after(BEGUN, end_away(1), end_at(1)), [[-2, 0], [9, 0]])

    def test_begun_again_while_going(self):
        self.assertEqual(after(GOING, end_start(1, 5, 20, 7), end_at(1), end_away(1), end_heard(1, frame(1, 5, 1, 7))),
                         [[0, 0], [20, 0], [-2, 0], sent(5, 20, 7)])

    def test_begun_again_as_another_vehicle(self):
        self.assertEqual(after(BEGUN, end_start(1, 6, 20, 0), end_heard(1, frame(1, 5, 10, 4)),
                               end_heard(1, frame(1, 6, 10, 1)), end_at(1)), [[0, 0], [-71, 0], goes(10), [266, 0]])

    def test_begun_again_with_a_lower_number(self):
        self.assertEqual(after(AWAY, end_start(1, 5, 9, 3), end_heard(1, frame(1, 5, 10, 4))), [[0, 0], goes(10)])

    def test_begun_again_its_ticks_begin_anew(self):
        rows = after(BEGUN, *[end_tick(1)] * 9, end_start(1, 5, 9, 3), *[end_tick(1)] * 10)
        self.assertEqual(rows, [[0, 0]] * 19 + [sent(5, 9, 3)])

    def test_refused_it_stays_as_it_was(self):
        refused = [end_start(1, 64, 20, 8), end_start(1, 6, 256, 8), end_start(1, 6, 20, LAST + 1)]
        rows = after(GOING, *[end_tick(1)] * 9, *refused, end_at(1), end_away(1), end_tick(1), *refused, end_at(1),
                     end_heard(1, frame(1, 5, 11, 5)))
        self.assertEqual(rows, [[0, 0]] * 9 + [[-22, 0]] * 3 + [[266, 0], sent(5, 10, 4), sent(5, 10, 4)]
                         + [[-22, 0]] * 3 + [[10, 0], goes(11)])

    def test_refused_first_and_come_again(self):
        rows = run(end_start(2, 64, 0, 0), end_start(2, 0, 256, 0), end_start(2, 63, 255, LAST + 1),
                   end_start(2, 63, 255, LAST), end_at(2))
        self.assertEqual(rows, [[-22, 0]] * 3 + [[0, 0], [255, 0]])


class RightTest(unittest.TestCase):
    """Which frames an end takes: one like the one that would make it go."""

    def answer(self, given):
        rows = after(BEGUN, end_heard(1, given), end_at(1))
        self.assertEqual(rows[1], [266, 0] if rows[0][0] == 1 else [9, 0])
        if rows[0][0] < 1:
            self.assertEqual(rows[0][1:], [0])
        return rows[0][0]

    def test_each_bit_that_is_turned(self):
        for place in range(16):
            for bit in range(8):
                given = frame(1, 5, 10, 4)
                given[place] ^= 1 << bit
                self.assertEqual(self.answer(given), -71, (place, bit))

    def test_the_kind(self):
        for kind in range(256):
            self.assertEqual(self.answer(frame(kind, 5, 10, 4)), 1 if kind == 1 else -71, kind)

    def test_a_frame_for_another_vehicle(self):
        for v in range(256):
            self.assertEqual(self.answer(frame(1, v, 10, 4)), 1 if v == 5 else -71, v)

    def test_the_number(self):
        for number, answer in ((0, -71), (1, 0), (2, 0), (4, 1), (5, 0), (260, 0), (65540, 0), (16777220, 0),
                               (LAST, 0), (LAST + 1, 0), (LAST + 5, 0), (TOP, 0)):
            self.assertEqual(self.answer(frame(1, 5, 10, number)), answer, number)

    def test_0_where_told(self):
        for place in (3, 8, 9, 10, 11):
            for value in (1, 128, 255):
                head = frame(1, 5, 10, 4)[:12]
                head[place] = value
                self.assertEqual(self.answer(with_check(head)), -71, (place, value))

    def test_the_check(self):
        head = frame(1, 5, 10, 4)[:12]
        self.assertEqual(self.answer(head + [0] * 4), -71)
        self.assertEqual(self.answer(head + [255] * 4), -71)
        self.assertEqual(self.answer(head + with_check(head)[:11:-1]), -71)
        self.assertEqual(self.answer([0] * 16), -71)
        self.assertEqual(self.answer([255] * 16), -71)

    def test_what_it_sent_itself(self):
        own = run(*AWAY)[-1][3:]
        self.assertEqual(own, frame(2, 5, 10, 4))
        self.assertEqual(after(AWAY, end_heard(1, own), end_at(1)), [[-71, 0], [10, 0]])

    def test_number_0_of_an_end_with_the_number_0(self):
        for kind in (1, 2):
            self.assertEqual(after([end_start(0, 5, 9, 0)], end_heard(0, frame(kind, 5, 9, 0)), end_at(0)),
                             [[-71, 0], [9, 0]])

    def test_refused_while_going_too(self):
        for given in (frame(2, 5, 10, 4), frame(1, 6, 10, 4), frame(1, 64, 10, 4), frame(1, 5, 10, 0), [0] * 16):
            self.assertEqual(after(GOING, end_heard(1, given), end_at(1)), [[-71, 0], [266, 0]])


class HeardTest(unittest.TestCase):
    def test_told_to_go(self):
        self.assertEqual(after(BEGUN, end_heard(1, frame(1, 5, 10, 4)), end_at(1)), [[1, 1, 2, 10], [266, 0]])

    def test_any_piece_will_do(self):
        for piece in (0, 9, 255):
            rows = after(BEGUN, end_heard(1, frame(1, 5, piece, 4)), end_at(1), end_away(1), end_at(1))
            self.assertEqual(rows, [goes(piece), [256 + piece, 0], sent(5, piece, 4), [piece, 0]])

    def test_the_first_of_all(self):
        self.assertEqual(after([end_start(0, 63, 255, 0)], end_heard(0, frame(1, 63, 0, 1)), end_away(0)),
                         [goes(0), sent(63, 0, 1)])

    def test_one_heard_twice_while_going(self):
        self.assertEqual(after(GOING, end_heard(1, frame(1, 5, 10, 4)), end_heard(1, frame(1, 5, 10, 4)), end_at(1)),
                         [[0, 0], [0, 0], [266, 0]])

    def test_one_heard_twice_when_away(self):
        self.assertEqual(after(AWAY, end_heard(1, frame(1, 5, 10, 4)), end_heard(1, frame(1, 5, 10, 4)), end_at(1)),
                         [sent(5, 10, 4), sent(5, 10, 4), [10, 0]])

    def test_its_own_number_as_it_began(self):
        # Its own piece is sent, not the frame's.
        self.assertEqual(after(BEGUN, end_heard(1, frame(1, 5, 77, 3)), end_at(1)), [sent(5, 9, 3), [9, 0]])

    def test_a_number_before(self):
        for number in (1, 2, 3):
            self.assertEqual(after(AWAY, end_heard(1, frame(1, 5, 9, number)), end_at(1)), [[0, 0], [10, 0]])
            self.assertEqual(after(GOING, end_heard(1, frame(1, 5, 9, number)), end_at(1)), [[0, 0], [266, 0]])

    def test_a_number_to_come(self):
        rows = after(BEGUN, end_heard(1, frame(1, 5, 11, 5)), end_at(1), end_away(1), end_heard(1, frame(1, 5, 10, 4)),
                     end_heard(1, frame(1, 5, 11, 5)), end_at(1), end_away(1), end_heard(1, frame(1, 5, 11, 5)))
        self.assertEqual(rows, [[0, 0], [9, 0], [-2, 0], goes(10), [0, 0], [266, 0], sent(5, 10, 4), goes(11)])

    def test_one_more_while_going_is_not_kept(self):
        rows = after(GOING, end_heard(1, frame(1, 5, 11, 5)), end_at(1), end_away(1), end_at(1), end_away(1))
        self.assertEqual(rows, [[0, 0], [266, 0], sent(5, 10, 4), [10, 0], [-2, 0]])

    def test_refused_changes_nothing(self):
        wrong = frame(1, 5, 10, 4)
        wrong[12] ^= 1
        rows = after(BEGUN, end_heard(1, wrong), end_heard(1, frame(2, 5, 10, 4)), end_heard(1, frame(1, 4, 10, 4)),
                     end_at(1), end_away(1), end_heard(1, frame(1, 5, 8, 3)), end_heard(1, frame(1, 5, 10, 4)))
        self.assertEqual(rows, [[-71, 0]] * 3 + [[9, 0], [-2, 0], sent(5, 9, 3), goes(10)])

    def test_the_last_number_and_one_more(self):
        # The document has no largest number for what an end hears.
        begun = [end_start(0, 5, 9, LAST)]
        rows = after(begun, end_heard(0, frame(1, 5, 1, LAST)), end_heard(0, frame(1, 5, 10, LAST + 1)), end_at(0),
                     end_away(0), end_heard(0, frame(1, 5, 10, LAST + 1)), end_heard(0, frame(1, 5, 10, LAST)))
        self.assertEqual(rows, [sent(5, 9, LAST), goes(10), [266, 0], sent(5, 10, LAST + 1), sent(5, 10, LAST + 1),
                                [0, 0]])

    def test_one_before_the_last_number(self):
        begun = [end_start(0, 5, 9, LAST - 1)]
        self.assertEqual(after(begun, end_heard(0, frame(1, 5, 1, TOP)), end_heard(0, frame(1, 5, 1, LAST + 1)),
                               end_heard(0, frame(1, 5, 1, LAST)), end_away(0)),
                         [[0, 0], [0, 0], goes(1), sent(5, 1, LAST)])

    def test_each_byte_of_the_number(self):
        for number in (255, 256, 65535, 65536, 16777215, 16777216):
            rows = after([end_start(0, 5, 9, number)], end_heard(0, frame(1, 5, 1, number + 1)), end_away(0))
            self.assertEqual(rows, [goes(1), sent(5, 1, number + 1)])


class AwayTest(unittest.TestCase):
    def test_it_is_away(self):
        self.assertEqual(after(GOING, end_away(1), end_at(1)), [[0, 1, 1] + frame(2, 5, 10, 4), [10, 0]])

    def test_the_frame_byte_by_byte(self):
        row = run(*AWAY)[-1]
        self.assertEqual(row[:15], [0, 1, 1, 2, 5, 10, 0, 4, 0, 0, 0, 0, 0, 0, 0])
        self.assertEqual(len(row), 19)

    def test_not_going(self):
        self.assertEqual(after(BEGUN, end_away(1), end_away(1), end_at(1)), [[-2, 0], [-2, 0], [9, 0]])
        self.assertEqual(after(AWAY, end_away(1), end_at(1)), [[-2, 0], [10, 0]])
        self.assertEqual(after([end_start(0, 5, 9, 0)], end_away(0)), [[-2, 0]])

    def test_refused_changes_nothing(self):
        rows = after(BEGUN, *[end_tick(1)] * 9, end_away(1), end_tick(1), end_away(1), end_heard(1, frame(1, 5, 1, 3)))
        self.assertEqual(rows, [[0, 0]] * 9 + [[-2, 0], sent(5, 9, 3), [-2, 0], sent(5, 9, 3)])


class TickTest(unittest.TestCase):
    def test_each_tenth(self):
        rows = after(BEGUN, *[end_tick(1)] * 31)
        self.assertEqual(rows, [sent(5, 9, 3) if k % 10 == 0 else [0, 0] for k in range(1, 32)])

    def test_none_with_the_number_0_but_they_count(self):
        rows = after([end_start(0, 5, 9, 0)], *[end_tick(0)] * 15, end_heard(0, frame(1, 5, 10, 1)), end_away(0),
                     *[end_tick(0)] * 5)
        self.assertEqual(rows, [[0, 0]] * 15 + [goes(10), sent(5, 10, 1)] + [[0, 0]] * 4 + [sent(5, 10, 1)])

    def test_none_while_going_but_they_count(self):
        rows = after(GOING, *[end_tick(1)] * 12, end_away(1), *[end_tick(1)] * 8)
        self.assertEqual(rows, [[0, 0]] * 12 + [sent(5, 10, 4)] + [[0, 0]] * 7 + [sent(5, 10, 4)])

    def test_they_count_on_over_all_that_comes_between(self):
        between = [end_heard(1, frame(1, 5, 10, 4)), end_away(1), end_heard(1, frame(1, 5, 10, 4)), end_at(1),
                   end_heard(1, [0] * 16), end_start(0, 5, 9, 3), end_start(1, 64, 0, 0)]
        rows = after(BEGUN, *[end_tick(1)] * 4, *between, *[end_tick(1)] * 6)
        self.assertEqual(rows[-6:], [[0, 0]] * 5 + [sent(5, 10, 4)])

    def test_a_tick_does_not_make_it_go(self):
        self.assertEqual(after(GOING, *[end_tick(1)] * 10, end_at(1))[-1], [266, 0])
        self.assertEqual(after(BEGUN, *[end_tick(1)] * 10, end_at(1))[-1], [9, 0])


class AtTest(unittest.TestCase):
    def test_the_edges(self):
        for piece in (0, 255):
            begun = [end_start(0, 5, 255 - piece, 0)]
            rows = after(begun, end_at(0), end_heard(0, frame(1, 5, piece, 1)), end_at(0), end_away(0), end_at(0))
            self.assertEqual([row[0] for row in rows], [255 - piece, 1, 256 + piece, 0, piece])
            self.assertEqual([row[1:] for row in rows if len(row) == 2], [[0]] * 3)

    def test_asking_changes_nothing(self):
        rows = after(GOING, end_at(1), end_at(1), *[end_tick(1)] * 9, end_at(1), end_away(1), end_at(1), end_tick(1))
        self.assertEqual(rows[:2] + rows[11:], [[266, 0], [266, 0], [266, 0], sent(5, 10, 4), [10, 0], sent(5, 10, 4)])


class SeveralTest(unittest.TestCase):
    THREE = [end_start(0, 4, 8, 0), end_start(1, 5, 9, 3), end_start(2, 6, 10, 7)]

    def test_each_holds_its_own(self):
        rows = after(self.THREE, end_heard(1, frame(1, 5, 20, 4)), end_at(0), end_at(1), end_at(2), end_away(0),
                     end_away(2), end_away(1), end_heard(0, frame(1, 4, 21, 1)), end_at(0), end_at(1), end_at(2))
        self.assertEqual(rows, [goes(20), [8, 0], [276, 0], [10, 0], [-2, 0], [-2, 0], sent(5, 20, 4), goes(21),
                                [277, 0], [20, 0], [10, 0]])

    def test_each_has_its_own_ticks(self):
        rows = after(self.THREE, *[end_tick(1)] * 9, *[end_tick(2)] * 10, end_tick(0), end_tick(1))
        self.assertEqual(rows, [[0, 0]] * 18 + [sent(6, 10, 7), [0, 0], sent(5, 9, 3)])

    def test_one_begun_again_leaves_the_others(self):
        rows = after(self.THREE, *[end_tick(1)] * 9, end_start(0, 5, 1, 1), end_start(2, 5, 2, 2), end_tick(1),
                     end_at(0), end_at(1), end_at(2))
        self.assertEqual(rows[9:], [[0, 0], [0, 0], sent(5, 9, 3), [1, 0], [9, 0], [2, 0]])

    def test_three_ends_of_one_vehicle(self):
        begun = [end_start(end, 5, 9, 3) for end in (2, 0, 1)]
        rows = after(begun, end_heard(2, frame(1, 5, 10, 4)), end_at(0), end_at(1), end_at(2), end_away(0), end_away(2))
        self.assertEqual(rows, [goes(10), [9, 0], [9, 0], [266, 0], [-2, 0], sent(5, 10, 4)])

    def test_one_begins_while_another_was_never_there(self):
        for end in (0, 1, 2):
            self.assertEqual(run(end_start(end, 1, 2, 3), end_at(end)), [[0, 0], [2, 0]])


class WithTowerTest(unittest.TestCase):
    GROUND = start(4, [(0, 1), (1, 2), (2, 3)])

    def test_what_the_one_sends_the_other_hears(self):
        calls = [self.GROUND, enter(5, 0), end_start(1, 5, 0, 0), give(5, [1, 2])]
        to_go = run(*calls, tick())[-1]
        self.assertEqual(to_go, told(go(5, 1, 1)))
        calls += [tick(), end_heard(1, to_go[4:])]
        back = run(*calls, end_away(1))[-1]
        self.assertEqual(back, sent(5, 1, 1))
        rows = after(calls, tick(), end_away(1), heard(back[3:]), heard(back[3:]), tick())
        self.assertEqual(rows, [told(), back, [1, 0], [0, 0], told(go(5, 2, 2))])

    def test_ticks_of_tower_and_ends_are_counted_apart(self):
        calls = [self.GROUND, enter(5, 0), give(5, [1]), end_start(0, 5, 0, 2)]
        rows = after(calls, *[tick()] * 9, *[end_tick(0)] * 9, tick(), tick(), end_tick(0), end_tick(0))
        self.assertEqual(rows, [told(go(5, 1, 1))] + [told()] * 8 + [[0, 0]] * 9
                         + [told(go(5, 1, 1)), told(), sent(5, 0, 2), [0, 0]])

    def test_a_tower_begun_again_leaves_the_ends_and_they_the_tower(self):
        rows = run(*GOING, self.GROUND, enter(5, 0), end_at(1), end_start(1, 7, 1, 1), start(0), start(300),
                   end_at(1), enter(6, 0), self.GROUND, end_at(1), enter(6, 0))
        self.assertEqual(rows[2:], [[0, 0], [0, 0], [266, 0], [0, 0], [-22, 0], [-22, 0], [1, 0], [-2, 0], [0, 0],
                                    [1, 0], [0, 0]])

    def test_a_tower_that_is_refused_and_an_end_that_begins(self):
        rows = run(start(0), end_start(0, 5, 9, 3), end_at(0), start(257), end_tick(0), self.GROUND, tick())
        self.assertEqual(rows, [[-22, 0], [0, 0], [9, 0], [-22, 0], [0, 0], [0, 0], [0, 0]])

    def test_an_end_that_is_refused_and_a_tower_that_begins(self):
        rows = run(end_start(2, 5, 256, 0), self.GROUND, enter(5, 0), end_start(2, 5, 0, LAST + 1), tick(),
                   end_start(2, 5, 0, 0), end_at(2))
        self.assertEqual(rows, [[-22, 0], [0, 0], [0, 0], [-22, 0], [0, 0], [0, 0], [0, 0]])


if __name__ == "__main__":
    unittest.main()
