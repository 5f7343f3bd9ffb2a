"""Promise 3: tg_give and tg_drop."""

import unittest

from helper import TOP, chain, drop, enter, give, go, leave, number_of, run, stands, start, tick, told

GROUND = start(8, chain(8))
LONG = start(256, chain(256))
# Three arms round piece 0: 1, 2 and 3 near it, each with one more piece behind it.
STAR = start(7, [(0, 1), (0, 2), (0, 3), (1, 4), (2, 5), (3, 6)])


class WayTest(unittest.TestCase):
    def test_one_that_is_not_there(self):
        for v in (0, 2, 63, 64, TOP):
            self.assertEqual(number_of(GROUND, enter(1, 0), give(v, [1])), -22, v)

    def test_how_long(self):
        for length, answer in ((0, -22), (1, 0), (2, 0), (63, 0), (64, 0), (65, -22), (70, -22)):
            self.assertEqual(number_of(LONG, enter(1, 0), give(1, range(1, length + 1))), answer, length)

    def test_all_different(self):
        ring = start(4, [(0, 1), (1, 2), (2, 3), (3, 0), (1, 3)])
        self.assertEqual(number_of(ring, enter(1, 0), give(1, [1, 2, 3])), 0)
        self.assertEqual(number_of(ring, enter(1, 0), give(1, [1, 2, 3, 1])), -22)
        self.assertEqual(number_of(ring, enter(1, 0), give(1, [1, 2, 1])), -22)

    def test_not_where_it_stands(self):
        ring = start(3, [(0, 1), (1, 2), (2, 0), (0, 0)])
        self.assertEqual(number_of(ring, enter(1, 0), give(1, [0])), -22)
        self.assertEqual(number_of(ring, enter(1, 0), give(1, [1, 0])), -22)
        self.assertEqual(number_of(ring, enter(1, 0), give(1, [1, 2, 0])), -22)
        self.assertEqual(number_of(ring, enter(1, 0), give(1, [1, 2])), 0)

    def test_a_piece_near_itself_is_no_step(self):
        self.assertEqual(number_of(start(2, [(0, 1), (1, 1)]), enter(1, 0), give(1, [1, 1])), -22)

    def test_first_is_near(self):
        self.assertEqual(number_of(GROUND, enter(1, 3), give(1, [2])), 0)
        self.assertEqual(number_of(GROUND, enter(1, 3), give(1, [4])), 0)
        self.assertEqual(number_of(GROUND, enter(1, 3), give(1, [1])), -22)
        self.assertEqual(number_of(GROUND, enter(1, 3), give(1, [5, 4])), -22)

    def test_each_is_near_the_one_before(self):
        self.assertEqual(number_of(GROUND, enter(1, 3), give(1, [4, 5, 6, 7])), 0)
        self.assertEqual(number_of(GROUND, enter(1, 3), give(1, [4, 5, 7])), -22)
        self.assertEqual(number_of(GROUND, enter(1, 3), give(1, [4, 2])), -22)

    def test_pieces_that_are_not_there(self):
        self.assertEqual(number_of(GROUND, enter(1, 7), give(1, [8])), -22)
        self.assertEqual(number_of(GROUND, enter(1, 6), give(1, [7, 255])), -22)

    def test_pairs_hold_both_ways(self):
        ground = start(3, [(1, 0), (1, 2)])
        self.assertEqual(number_of(ground, enter(1, 0), give(1, [1, 2])), 0)
        self.assertEqual(number_of(ground, enter(1, 2), give(1, [1, 0])), 0)


class FitTest(unittest.TestCase):
    def test_goal_of_one_that_stands_is_on_it(self):
        before = [GROUND, enter(1, 0), enter(2, 4)]
        self.assertEqual(number_of(*before, give(1, [1, 2, 3])), 0)
        self.assertEqual(number_of(*before, give(1, [1, 2, 3, 4])), -11)
        self.assertEqual(number_of(*before, give(1, [1, 2, 3, 4, 5])), -11)

    def test_goal_of_one_under_way_is_on_it(self):
        before = [STAR, enter(1, 4), give(1, [1, 0, 2]), enter(2, 6)]
        self.assertEqual(number_of(*before, give(2, [3, 0, 2, 5])), -11)
        self.assertEqual(number_of(*before, give(2, [3, 0, 2])), -11)

    def test_its_goal_is_on_anothers_way(self):
        before = [STAR, enter(1, 4), give(1, [1, 0, 2]), enter(2, 6)]
        self.assertEqual(number_of(*before, give(2, [3, 0])), -11)
        self.assertEqual(number_of(*before, give(2, [3])), 0)

    def test_ways_may_cross(self):
        before = [STAR, enter(1, 4), give(1, [1, 0, 2, 5]), enter(2, 6)]
        self.assertEqual(number_of(*before, give(2, [3])), 0)
        ground = start(5, [(0, 4), (1, 4), (2, 4), (3, 4)])
        self.assertEqual(number_of(ground, enter(1, 0), give(1, [4, 2]), enter(2, 1), give(2, [4, 3])), 0)

    def test_over_one_that_goes_away(self):
        ground = start(5, [(0, 1), (1, 2), (1, 3)])
        parked = [ground, enter(1, 1), enter(2, 0)]
        self.assertEqual(number_of(*parked, give(2, [1, 2])), -11)
        self.assertEqual(number_of(*parked, give(1, [3]), give(2, [1, 2])), 0)
        self.assertEqual(number_of(*parked, give(1, [2]), give(2, [1, 2])), -11)

    def test_pieces_behind_do_not_count(self):
        before = [STAR, enter(1, 0), give(1, [1]), tick(), enter(2, 2)]
        self.assertEqual(number_of(*before, give(2, [0, 3])), 0)

    def test_what_it_has_passed_does_not_count(self):
        before = [GROUND, enter(1, 2), give(1, [3, 4, 5]), tick(), stands(1, 3, 1), tick(), stands(1, 4, 2)]
        self.assertEqual(number_of(*before, enter(2, 1), give(2, [2, 3])), 0)

    def test_back_over_the_piece_behind_it(self):
        before = [GROUND, enter(1, 2), give(1, [3]), tick()]
        after = run(*before, give(1, [2, 1]), tick(), stands(1, 3, 1), tick())
        self.assertEqual(after[4:], [[0, 0], told(), [1, 0], told(go(1, 2, 2))])


class GiveTest(unittest.TestCase):
    def test_under_way(self):
        before = [GROUND, enter(1, 2), give(1, [3, 4])]
        self.assertEqual(number_of(*before, give(1, [3])), -2)
        self.assertEqual(number_of(*before, tick(), give(1, [4])), -2)
        self.assertEqual(number_of(*before, tick(), stands(1, 3, 1), tick(), give(1, [5])), 0)

    def test_order_of_refusals(self):
        before = [GROUND, enter(1, 2), give(1, [3, 4]), enter(2, 6)]
        self.assertEqual(number_of(*before, give(1, [4])), -22)
        self.assertEqual(number_of(*before, give(1, [])), -22)
        self.assertEqual(number_of(*before, give(1, [3, 4, 5, 6])), -2)
        self.assertEqual(number_of(*before, give(2, [5, 4])), -11)
        self.assertEqual(number_of(*before, give(2, [4])), -22)

    def test_that_is_its_way(self):
        after = run(GROUND, enter(1, 2), give(1, [1, 0]), tick(), stands(1, 1, 1), tick(), stands(1, 0, 2), tick())
        self.assertEqual(after[3:], [told(go(1, 1, 1)), [1, 0], told(go(1, 0, 2)), [1, 0], told()])

    def test_refused_changes_nothing(self):
        before = [GROUND, enter(1, 2), enter(2, 6)]
        after = run(*before, give(1, [4]), give(1, [3, 4, 5, 6]), tick(), give(1, [3]), give(1, [3, 4]), give(1, [1]),
                    tick(), give(1, [4]), stands(1, 3, 1), tick(), leave(1))
        self.assertEqual(after[3:], [[-22, 0], [-11, 0], told(), [0, 0], [-2, 0], [-2, 0],
                                     told(go(1, 3, 1)), [0, 0], [1, 0], told(go(1, 4, 2)), [-2, 0]])


class DropTest(unittest.TestCase):
    def test_one_that_is_not_there(self):
        for v in (0, 2, 63, 64, TOP):
            self.assertEqual(number_of(GROUND, enter(1, 0), give(1, [1]), drop(v)), -22, v)

    def test_not_under_way(self):
        self.assertEqual(number_of(GROUND, enter(1, 0), drop(1)), -2)
        self.assertEqual(number_of(GROUND, enter(1, 0), give(1, [1]), tick(), drop(1)), -2)
        self.assertEqual(number_of(GROUND, enter(1, 0), give(1, [1]), drop(1), drop(1)), -2)

    def test_it_has_no_way_any_more(self):
        after = run(GROUND, enter(1, 0), give(1, [1, 2]), drop(1), tick(), enter(2, 1), leave(1))
        self.assertEqual(after, [[0, 0]] * 7)

    def test_with_a_piece_behind(self):
        after = run(GROUND, enter(1, 0), give(1, [1, 2]), tick(), drop(1), leave(1), enter(2, 0), stands(1, 1, 1),
                    tick(), leave(1))
        self.assertEqual(after[4:], [[0, 0], [-2, 0], [-2, 0], [1, 0], told(), [0, 0]])

    def test_on_anothers_way(self):
        ground = start(5, [(0, 1), (1, 2), (1, 3)])
        before = [ground, enter(1, 1), enter(2, 0), give(1, [3]), give(2, [1, 2])]
        self.assertEqual(number_of(*before, drop(1)), -11)
        self.assertEqual(number_of(*before, drop(2), drop(1)), 0)
        self.assertEqual(number_of(*before, tick(), drop(1)), -2)

    def test_goal_then_is_where_it_stands(self):
        ground = start(5, [(0, 1), (1, 2), (1, 3)])
        before = [ground, enter(1, 1), enter(2, 0), give(1, [3]), drop(1)]
        self.assertEqual(number_of(*before, give(2, [1, 2])), -11)
        self.assertEqual(number_of(*before, enter(3, 3)), 0)

    def test_refused_changes_nothing(self):
        ground = start(5, [(0, 1), (1, 2), (1, 3)])
        before = [ground, enter(1, 1), enter(2, 0), give(1, [3]), give(2, [1, 2])]
        after = run(*before, drop(1), drop(3), tick(), drop(1), stands(1, 3, 1), tick())
        self.assertEqual(after[5:], [[-11, 0], [-22, 0], told(go(1, 3, 1)), [-2, 0], [1, 0], told(go(2, 1, 1))])


if __name__ == "__main__":
    unittest.main()
