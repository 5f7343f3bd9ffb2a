"""Promise 5: tg_heard, and the frames it hears."""

import unittest

from groundtower.frames import check_of, is_right, make_frame
from helper import (TOP, chain, enter, frame, give, go, heard, leave, number_of, run, stands, start, tick, told,
                    with_check)

GROUND = start(8, chain(8))
# Vehicle 3 stands on 2 with the number 1, and lies on 1 still.
MOVING = [GROUND, enter(3, 1), give(3, [2, 3, 4]), tick()]


class CheckTest(unittest.TestCase):
    def test_known_values(self):
        self.assertEqual(check_of([ord(sign) for sign in "123456789"]), 0xE3069283)
        self.assertEqual(check_of([0] * 32), 0x8A9136AA)
        self.assertEqual(check_of([255] * 32), 0x62A8AB43)
        self.assertEqual(check_of(list(range(32))), 0x46DD794E)

    def test_whole_frames(self):
        for parts in ((1, 0, 0, 1), (2, 63, 255, TOP), (1, 5, 77, 0x12345678), (2, 33, 1, 256), (1, 1, 1, 65536)):
            self.assertEqual(make_frame(*parts), frame(*parts))
        self.assertEqual(make_frame(2, 3, 4, 0x12345678)[:12], [2, 3, 4, 0, 0x78, 0x56, 0x34, 0x12, 0, 0, 0, 0])

    def test_right_for_whom_it_has_come_to(self):
        self.assertTrue(is_right(frame(1, 63, 0, TOP), 1))
        self.assertTrue(is_right(frame(2, 0, 255, 1), 2))
        self.assertFalse(is_right(frame(1, 63, 0, TOP), 2))
        self.assertFalse(is_right(frame(2, 0, 255, 1), 1))


class RightTest(unittest.TestCase):
    def answer(self, given):
        return number_of(*MOVING, heard(given))

    def test_each_bit_that_is_turned(self):
        for place in range(16):
            for bit in range(8):
                given = frame(2, 3, 2, 1)
                given[place] ^= 1 << bit
                self.assertEqual(self.answer(given), -71, (place, bit))

    def test_the_kind(self):
        for kind in range(256):
            self.assertEqual(self.answer(frame(kind, 3, 2, 1)), 1 if kind == 2 else -71, kind)

    def test_what_the_tower_sent_itself(self):
        self.assertEqual(self.answer(run(*MOVING)[-1][4:]), -71)

    def test_the_vehicle(self):
        for v in range(256):
            self.assertEqual(self.answer(frame(2, v, 2, 1)), 1 if v == 3 else 0 if v <= 63 else -71, v)

    def test_the_number(self):
        for number, answer in ((0, -71), (1, 1), (2, 0), (257, 0), (65537, 0), (16777217, 0), (2147483647, 0),
                               (2147483648, 0), (2147483649, 0), (TOP, 0)):
            self.assertEqual(self.answer(frame(2, 3, 2, number)), answer, number)

    def test_0_where_told(self):
        for place in (3, 8, 9, 10, 11):
            for value in (1, 128, 255):
                head = frame(2, 3, 2, 1)[:12]
                head[place] = value
                self.assertEqual(self.answer(with_check(head)), -71, (place, value))

    def test_the_check(self):
        head = frame(2, 3, 2, 1)[:12]
        self.assertEqual(self.answer(head + [0] * 4), -71)
        self.assertEqual(self.answer(head + [255] * 4), -71)
        self.assertEqual(self.answer(head + with_check(head)[:11:-1]), -71)
        self.assertEqual(self.answer([0] * 16), -71)
        self.assertEqual(self.answer([255] * 16), -71)


class HeardTest(unittest.TestCase):
    def test_no_piece_behind_any_more(self):
        rows = run(*MOVING, stands(3, 2, 1), enter(4, 1), tick())
        self.assertEqual(rows[4:], [[1, 0], [0, 0], told(go(3, 3, 2))])

    def test_heard_twice(self):
        rows = run(*MOVING, stands(3, 2, 1), stands(3, 2, 1), stands(3, 2, 1), tick())
        self.assertEqual(rows[4:], [[1, 0], [0, 0], [0, 0], told(go(3, 3, 2))])

    def test_a_number_before_and_one_to_come(self):
        rows = run(*MOVING, stands(3, 2, 2), stands(3, 3, 2), stands(3, 2, 1), tick(), stands(3, 2, 1),
                   stands(3, 3, 1), stands(3, 3, 3), enter(4, 2), stands(3, 3, 2), enter(4, 2))
        self.assertEqual(rows[4:], [[0, 0], [0, 0], [1, 0], told(go(3, 3, 2)), [0, 0],
                                    [0, 0], [0, 0], [-2, 0], [1, 0], [0, 0]])

    def test_another_piece(self):
        for piece in (0, 1, 3, 4, 7, 8, 255):
            rows = run(*MOVING, stands(3, piece, 1), tick(), enter(4, 1))
            self.assertEqual(rows[4:], [[0, 0], told(), [-2, 0]], piece)

    def test_a_vehicle_that_is_not_there(self):
        self.assertEqual(number_of(GROUND, stands(3, 2, 1)), 0)
        self.assertEqual(number_of(*MOVING, stands(4, 2, 1)), 0)
        gone = [GROUND, enter(3, 1), give(3, [2]), tick(), stands(3, 2, 1), leave(3)]
        self.assertEqual(number_of(*gone, stands(3, 2, 1)), 0)

    def test_a_vehicle_that_was_not_told_to_go(self):
        self.assertEqual(number_of(GROUND, enter(3, 1), stands(3, 1, 1)), 0)

    def test_late_for_one_that_entered_again(self):
        gone = [GROUND, enter(3, 1), give(3, [2]), tick(), stands(3, 2, 1), leave(3)]
        rows = run(*gone, enter(3, 1), give(3, [2]), tick(), stands(3, 2, 1), enter(4, 1), stands(3, 2, 2), enter(4, 1))
        self.assertEqual(rows[6:], [[1, 0], [0, 0], told(go(3, 2, 2)), [0, 0], [-2, 0], [1, 0], [0, 0]])

    def test_its_own_alone(self):
        ground = start(4, [(0, 1), (2, 3)])
        before = [ground, enter(1, 0), enter(2, 2), give(1, [1]), give(2, [3]), tick()]
        rows = run(*before, stands(1, 1, 1), enter(5, 0), enter(6, 2))
        self.assertEqual(rows[6:], [[1, 0], [0, 0], [-2, 0]])

    def test_refused_changes_nothing(self):
        wrong = frame(2, 3, 2, 1)
        wrong[15] ^= 1
        rows = run(*MOVING, heard(wrong), heard(frame(1, 3, 2, 1)), tick(), enter(4, 1), stands(3, 2, 1), tick())
        self.assertEqual(rows[4:], [[-71, 0], [-71, 0], told(), [-2, 0], [1, 0], told(go(3, 3, 2))])


if __name__ == "__main__":
    unittest.main()
