"""Promise 2: tg_enter and tg_leave."""

import unittest

from helper import TOP, chain, enter, give, go, leave, number_of, run, stands, start, tick, told

GROUND = start(6, chain(6))
# Vehicle 3 stands on 2, lies on 1 still, and 3 and 4 are its way.
MOVING = [GROUND, enter(3, 1), give(3, [2, 3, 4]), tick()]


class EnterTest(unittest.TestCase):
    def test_which_vehicles(self):
        for v, answer in ((0, 0), (1, 0), (63, 0), (64, -22), (255, -22), (256, -22), (TOP, -22)):
            self.assertEqual(number_of(GROUND, enter(v, 0)), answer, v)

    def test_which_pieces(self):
        for piece, answer in ((0, 0), (5, 0), (6, -22), (255, -22), (256, -22), (TOP, -22)):
            self.assertEqual(number_of(GROUND, enter(0, piece)), answer, piece)
        self.assertEqual(number_of(start(256), enter(0, 255)), 0)
        self.assertEqual(number_of(start(256), enter(0, 256)), -22)

    def test_one_that_is_there(self):
        self.assertEqual(number_of(GROUND, enter(3, 0), enter(3, 1)), -22)
        self.assertEqual(number_of(GROUND, enter(3, 0), enter(3, 0)), -22)

    def test_all_64(self):
        ground = start(64)
        rows = [enter(v, 63 - v) for v in range(64)]
        self.assertEqual(run(ground, *rows), [[0, 0]] * 65)

    def test_piece_that_is_held(self):
        self.assertEqual(number_of(GROUND, enter(3, 1), enter(4, 1)), -2)
        self.assertEqual(number_of(*MOVING, enter(4, 2)), -2)
        self.assertEqual(number_of(*MOVING, enter(4, 1)), -2)
        self.assertEqual(number_of(*MOVING, stands(3, 2, 1), enter(4, 1)), 0)

    def test_piece_0_is_held_like_others(self):
        before = [GROUND, enter(0, 0), give(0, [1, 2]), tick()]
        self.assertEqual(number_of(GROUND, enter(0, 0), enter(1, 0)), -2)
        self.assertEqual(number_of(*before, enter(1, 0)), -2)
        self.assertEqual(number_of(*before, stands(0, 1, 1), enter(1, 0)), 0)

    def test_piece_on_a_way(self):
        self.assertEqual(number_of(*MOVING, enter(4, 3)), -11)
        self.assertEqual(number_of(*MOVING, enter(4, 4)), -11)
        self.assertEqual(number_of(*MOVING, enter(4, 0)), 0)
        self.assertEqual(number_of(*MOVING, enter(4, 5)), 0)
        self.assertEqual(number_of(GROUND, enter(3, 1), give(3, [2]), enter(4, 2)), -11)

    def test_order_of_refusals(self):
        # 2 is held by vehicle 3 and on vehicle 0's way.
        pairs = chain(6) + [(2, 5)]
        both = [start(6, pairs), enter(3, 1), give(3, [2, 3]), enter(0, 0), give(0, [1, 2, 5]), tick()]
        self.assertEqual(run(*both)[-2], [0, 0])
        self.assertEqual(number_of(*both, enter(4, 2)), -2)
        self.assertEqual(number_of(*both, enter(64, 2)), -22)
        self.assertEqual(number_of(*both, enter(3, 2)), -22)
        self.assertEqual(number_of(*both, enter(64, 5)), -22)
        self.assertEqual(number_of(*both, enter(0, 5)), -22)
        self.assertEqual(number_of(*both, enter(4, 5)), -11)

    def test_stands_without_a_way_and_none_behind(self):
        self.assertEqual(run(GROUND, enter(0, 2), *[tick()] * 10, leave(0)), [[0, 0]] * 13)
        self.assertEqual(number_of(GROUND, enter(0, 2), enter(1, 1)), 0)

    def test_refused_changes_nothing(self):
        after = run(*MOVING, enter(3, 5), enter(4, 2), enter(4, 3), enter(64, 0), enter(4, 6), leave(4),
                    enter(5, 0), enter(6, 5), stands(3, 2, 1), tick())
        self.assertEqual(after[4:], [[-22, 0], [-2, 0], [-11, 0], [-22, 0], [-22, 0], [-22, 0],
                                     [0, 0], [0, 0], [1, 0], told(go(3, 3, 2))])


class LeaveTest(unittest.TestCase):
    def test_one_that_is_not_there(self):
        for v in (0, 3, 63, 64, 256, TOP):
            self.assertEqual(number_of(GROUND, enter(2, 0), leave(v)), -22, v)
        self.assertEqual(number_of(GROUND, enter(2, 0), leave(2), leave(2)), -22)

    def test_it_is_gone(self):
        self.assertEqual(run(GROUND, enter(63, 0), leave(63), enter(1, 0)), [[0, 0]] * 4)
        self.assertEqual(number_of(GROUND, enter(2, 1), enter(3, 0), leave(2), give(3, [1, 2])), 0)

    def test_under_way(self):
        self.assertEqual(number_of(GROUND, enter(2, 0), give(2, [1]), leave(2)), -2)
        self.assertEqual(number_of(*MOVING, leave(3)), -2)
        self.assertEqual(number_of(*MOVING, stands(3, 2, 1), leave(3)), -2)

    def test_a_piece_behind(self):
        before = [GROUND, enter(2, 0), give(2, [1]), tick()]
        self.assertEqual(number_of(*before, leave(2)), -2)
        self.assertEqual(number_of(*before, stands(2, 1, 1), leave(2)), 0)

    def test_piece_0_behind(self):
        before = [start(2, [(0, 1)]), enter(0, 0), give(0, [1]), tick()]
        self.assertEqual(number_of(*before, leave(0)), -2)

    def test_number_stays_when_it_leaves(self):
        gone = [GROUND, enter(2, 0), give(2, [1, 2]), tick(), stands(2, 1, 1), tick(), stands(2, 2, 2), leave(2)]
        self.assertEqual(number_of(*gone, enter(2, 5)), 2)
        self.assertEqual(number_of(*gone, enter(1, 5)), 0)
        after = run(*gone, enter(2, 5), give(2, [4]), tick(), stands(2, 4, 1), stands(2, 4, 3), leave(2), enter(2, 0))
        self.assertEqual(after[len(gone):], [[2, 0], [0, 0], told(go(2, 4, 3)), [0, 0], [1, 0], [0, 0], [3, 0]])

    def test_refused_changes_nothing(self):
        after = run(*MOVING, leave(3), leave(0), stands(3, 2, 1), leave(3), tick(), stands(3, 3, 2), tick(),
                    leave(3), stands(3, 4, 3), leave(3))
        self.assertEqual(after[4:], [[-2, 0], [-22, 0], [1, 0], [-2, 0], told(go(3, 3, 2)), [1, 0],
                                     told(go(3, 4, 3)), [-2, 0], [1, 0], [0, 0]])


if __name__ == "__main__":
    unittest.main()
