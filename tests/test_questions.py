"""Promise 6: tg_at and tg_left."""

import unittest

from helper import (TOP, at, chain, drop, end_heard, end_start, enter, frame, give, go, heard, leave, left, number_of,
                    run, stands, start, tick, told)

GROUND = start(8, chain(8))


def both(v, *calls):
    """What tg_at and tg_left answer of v behind the calls."""
    rows = run(*calls, at(v), left(v))[-2:]
    assert rows[0][1:] == rows[1][1:] == [0], rows
    return rows[0][0], rows[1][0]


class NobodyTest(unittest.TestCase):
    def test_no_such_vehicle(self):
        for v in (0, 1, 62, 63, 64, 255, 256, TOP):
            self.assertEqual(both(v, GROUND), (-22, -22), v)
            self.assertEqual(both(v, GROUND, enter(5, 0), give(5, [1])), (-22, -22), v)

    def test_one_that_has_left(self):
        self.assertEqual(both(5, GROUND, enter(5, 3), leave(5)), (-22, -22))

    def test_one_that_was_refused(self):
        self.assertEqual(both(64, GROUND, enter(64, 3)), (-22, -22))
        self.assertEqual(both(5, GROUND, enter(5, 8)), (-22, -22))
        self.assertEqual(both(5, GROUND, enter(1, 3), enter(5, 3)), (-22, -22))

    def test_nobody_behind_a_new_start(self):
        self.assertEqual(both(5, GROUND, enter(5, 3), GROUND), (-22, -22))

    def test_a_start_that_is_refused_leaves_it(self):
        self.assertEqual(both(5, GROUND, enter(5, 3), give(5, [4, 5]), start(0)), (3, 2))

    def test_an_end_is_no_vehicle_of_the_tower(self):
        self.assertEqual(both(5, GROUND, end_start(0, 5, 3, 1)), (-22, -22))


class WhereTest(unittest.TestCase):
    def test_it_has_entered(self):
        for v in (0, 1, 63):
            for piece in (0, 3, 7):
                self.assertEqual(both(v, GROUND, enter(v, piece)), (piece, 0))

    def test_piece_255(self):
        calls = [start(256, [(254, 255)]), enter(0, 255)]
        self.assertEqual(both(0, *calls), (255, 0))
        self.assertEqual(both(0, *calls, give(0, [254]), tick()), (254, 0))

    def test_a_way_is_counted_whole(self):
        self.assertEqual(both(5, GROUND, enter(5, 0), give(5, [1])), (0, 1))
        self.assertEqual(both(5, GROUND, enter(5, 7), give(5, [6, 5, 4])), (7, 3))

    def test_a_way_of_64_and_of_65(self):
        long = [start(66, chain(66)), enter(5, 0)]
        self.assertEqual(both(5, *long, give(5, range(1, 65))), (0, 64))
        self.assertEqual(both(5, *long, give(5, range(1, 66))), (0, 0))

    def test_as_it_goes_on(self):
        calls = [GROUND, enter(5, 0), give(5, [1, 2])]
        self.assertEqual(both(5, *calls, tick()), (1, 1))
        self.assertEqual(both(5, *calls, tick(), tick()), (1, 1))
        self.assertEqual(both(5, *calls, tick(), stands(5, 1, 1)), (1, 1))
        self.assertEqual(both(5, *calls, tick(), stands(5, 1, 1), tick()), (2, 0))
        self.assertEqual(both(5, *calls, tick(), stands(5, 1, 1), tick(), stands(5, 2, 2)), (2, 0))

    def test_a_way_that_is_dropped_or_refused(self):
        calls = [GROUND, enter(5, 0), give(5, [1, 2])]
        self.assertEqual(both(5, *calls, drop(5)), (0, 0))
        self.assertEqual(both(5, *calls, tick(), drop(5)), (1, 0))
        self.assertEqual(both(5, *calls, give(5, [1])), (0, 2))
        self.assertEqual(both(5, *calls, give(5, [2])), (0, 2))

    def test_one_that_entered_again(self):
        calls = [GROUND, enter(5, 0), give(5, [1]), tick(), stands(5, 1, 1), leave(5), enter(5, 4)]
        self.assertEqual(both(5, *calls), (4, 0))
        self.assertEqual(both(5, *calls, stands(5, 1, 1), heard(frame(1, 5, 1, 1))), (4, 0))

    def test_each_its_own(self):
        calls = [GROUND, enter(1, 0), enter(2, 7), give(1, [1, 2, 3]), give(2, [6, 5]), tick(), stands(1, 1, 1), tick()]
        self.assertEqual(both(1, *calls), (2, 1))
        self.assertEqual(both(2, *calls), (6, 1))

    def test_what_an_end_hears_is_not_the_towers(self):
        calls = [GROUND, enter(5, 0), end_start(1, 5, 0, 0), end_heard(1, frame(1, 5, 1, 1))]
        self.assertEqual(both(5, *calls), (0, 0))


class AskedTest(unittest.TestCase):
    def test_asking_changes_nothing(self):
        rows = run(GROUND, enter(5, 0), give(5, [1, 2]), at(5), left(5), at(6), left(64), tick(), at(5), left(5),
                   enter(1, 0), stands(5, 1, 1), at(5), enter(1, 0), tick(), give(5, [3]))
        self.assertEqual(rows[3:], [[0, 0], [2, 0], [-22, 0], [-22, 0], told(go(5, 1, 1)), [1, 0], [1, 0],
                                    [-2, 0], [1, 0], [1, 0], [0, 0], told(go(5, 2, 2)), [0, 0]])

    def test_asking_is_no_tick(self):
        calls = [GROUND, enter(5, 0), give(5, [1])] + [tick()] * 9 + [at(5), left(5), at(9)]
        self.assertEqual(run(*calls, tick(), tick())[-2:], [told(go(5, 1, 1)), told()])

    def test_piece_0_is_no_refusal(self):
        self.assertEqual(number_of(GROUND, enter(0, 0), at(0)), 0)


if __name__ == "__main__":
    unittest.main()
