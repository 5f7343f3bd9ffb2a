"""Promise 4: tg_tick."""

import unittest

from groundtower.tower import Tower
from helper import chain, drop, enter, give, go, run, stands, start, tick, told

GROUND = start(8, chain(8))
# A single track 1, 2, 3 with two stands at each end: 0 and 5 near 1, 4 and 6 near 3.
TRACK = start(7, [(0, 1), (5, 1), (1, 2), (2, 3), (3, 4), (3, 6)])
# A ring 0, 1, 2; near each of its pieces a stand to come from (3, 4, 5) and one to go to (6, 7, 8).
RING = start(9, [(0, 1), (1, 2), (2, 0), (3, 0), (4, 1), (5, 2), (6, 0), (7, 1), (8, 2)])


def after(before, *calls):
    return run(*before, *calls)[len(before):]


class GoOnTest(unittest.TestCase):
    def test_nobody_is_there(self):
        self.assertEqual(after([GROUND], *[tick()] * 11), [told()] * 11)

    def test_nobody_is_under_way(self):
        self.assertEqual(after([GROUND, enter(1, 0), enter(2, 3)], *[tick()] * 11), [told()] * 11)

    def test_piece_by_piece(self):
        before = [GROUND, enter(63, 0), give(63, [1, 2])]
        self.assertEqual(after(before, tick(), tick(), stands(63, 1, 1), tick(), tick(), stands(63, 2, 2), tick()),
                         [told(go(63, 1, 1)), told(), [1, 0], told(go(63, 2, 2)), told(), [1, 0], told()])

    def test_the_frame_byte_by_byte(self):
        row = run(GROUND, enter(3, 0), give(3, [1]), tick())[-1]
        self.assertEqual(row[:4], [0, 1, 0, 3])
        self.assertEqual(row[4:16], [1, 3, 1, 0, 1, 0, 0, 0, 0, 0, 0, 0])
        self.assertEqual(len(row), 20)

    def test_in_the_order_of_their_numbers(self):
        ground = start(8, [(0, 1), (2, 3), (4, 5), (6, 7)])
        before = [ground, enter(9, 0), enter(63, 2), enter(0, 4), enter(5, 6)]
        ways = [give(9, [1]), give(63, [3]), give(0, [5]), give(5, [7])]
        self.assertEqual(after(before + ways, tick()),
                         [told(go(0, 5, 1), go(5, 7, 1), go(9, 1, 1), go(63, 3, 1))])

    def test_one_behind_another(self):
        # What a lower number does in a tick holds for the higher ones in that tick already.
        ground = start(4, [(0, 2), (1, 2), (2, 3)])
        before = [ground, enter(1, 0), enter(2, 1), give(1, [2, 3])]
        self.assertEqual(after(before, tick(), stands(1, 2, 1), tick(), give(2, [2]), tick(), stands(1, 3, 2), tick()),
                         [told(go(1, 2, 1)), [1, 0], told(go(1, 3, 2)), [0, 0], told(), [1, 0], told(go(2, 2, 1))])

    def test_a_piece_on_which_another_stands(self):
        ground = start(5, [(0, 1), (1, 2), (1, 3)])
        before = [ground, enter(1, 0), enter(2, 1), give(2, [3]), give(1, [1, 2])]
        self.assertEqual(after(before, tick(), tick()), [told(go(2, 3, 1)), told()])

    def test_a_piece_behind_another(self):
        ground = start(5, [(0, 1), (1, 2), (1, 3)])
        before = [ground, enter(2, 0), enter(1, 1), give(1, [3]), give(2, [1, 2])]
        self.assertEqual(after(before, tick(), tick(), stands(1, 3, 1), tick()),
                         [told(go(1, 3, 1)), told(), [1, 0], told(go(2, 1, 1))])

    def test_piece_0_behind_another(self):
        ground = start(4, [(0, 1), (0, 2), (0, 3)])
        before = [ground, enter(1, 0), enter(2, 1), give(1, [3]), give(2, [0, 2])]
        self.assertEqual(after(before, tick(), tick(), stands(1, 3, 1), tick()),
                         [told(go(1, 3, 1)), told(), [1, 0], told(go(2, 0, 1))])

    def test_none_while_a_piece_is_behind_it(self):
        before = [GROUND, enter(1, 0), give(1, [1, 2, 3])]
        self.assertEqual(after(before, *[tick()] * 9), [told(go(1, 1, 1))] + [told()] * 8)

    def test_way_of_64(self):
        calls = [start(65, chain(65)), enter(1, 0), give(1, range(1, 65))]
        for number in range(1, 65):
            calls += [tick(), stands(1, number, number)]
        rows = run(*calls, tick(), drop(1))
        for number in range(1, 65):
            self.assertEqual(rows[1 + 2 * number:3 + 2 * number], [told(go(1, number, number)), [1, 0]])
        self.assertEqual(rows[-2:], [told(), [-2, 0]])


class ClearTest(unittest.TestCase):
    def test_two_that_would_meet_head_on(self):
        before = [TRACK, enter(1, 0), enter(2, 4), give(1, [1, 2, 3, 6]), give(2, [3, 2, 1, 5])]
        self.assertEqual(after(before, tick(), stands(1, 1, 1), tick(), stands(1, 2, 2), tick(), stands(1, 3, 3),
                               tick(), tick(), stands(1, 6, 4), tick()),
                         [told(go(1, 1, 1)), [1, 0], told(go(1, 2, 2)), [1, 0], told(go(1, 3, 3)), [1, 0],
                          told(go(1, 6, 4)), told(), [1, 0], told(go(2, 3, 1))])

    def test_head_on_and_the_lower_number_waits(self):
        before = [TRACK, enter(2, 4), give(2, [3, 2, 1, 5]), tick(), enter(1, 0), give(1, [1, 2, 3, 6])]
        self.assertEqual(after(before, tick(), stands(2, 3, 1), tick(), stands(2, 2, 2), tick(), stands(2, 1, 3),
                               tick(), tick(), stands(2, 5, 4), tick()),
                         [told(), [1, 0], told(go(2, 2, 2)), [1, 0], told(go(2, 1, 3)), [1, 0],
                          told(go(2, 5, 4)), told(), [1, 0], told(go(1, 1, 1))])

    def test_one_behind_another_the_same_way(self):
        before = [TRACK, enter(1, 0), enter(2, 5), give(1, [1, 2, 3, 6]), give(2, [1, 2, 3, 4])]
        self.assertEqual(after(before, tick(), stands(1, 1, 1), tick(), stands(1, 2, 2), tick()),
                         [told(go(1, 1, 1)), [1, 0], told(go(1, 2, 2)), [1, 0], told(go(1, 3, 3), go(2, 1, 1))])

    def test_three_in_a_ring(self):
        before = [RING, enter(1, 3), enter(2, 4), enter(3, 5), give(1, [0, 1, 7]), give(2, [1, 2, 8]),
                  give(3, [2, 0, 6])]
        # With 1 on piece 0 and 2 on piece 1 the third would close the ring, though its piece is free.
        self.assertEqual(after(before, tick(), stands(1, 0, 1), stands(2, 1, 1), tick(), stands(2, 2, 2), tick(),
                               stands(2, 8, 3), tick(), stands(1, 1, 2), tick()),
                         [told(go(1, 0, 1), go(2, 1, 1)), [1, 0], [1, 0], told(go(2, 2, 2)), [1, 0],
                          told(go(1, 1, 2), go(2, 8, 3)), [1, 0], told(go(3, 2, 1)), [1, 0], told(go(1, 7, 3))])

    def test_pieces_behind_do_not_count(self):
        # 1 stands on 1 and lies on 0 still, which is on 3's way; that does not keep 3 from going.
        ground = start(6, [(0, 1), (1, 2), (3, 4), (4, 0), (0, 5)])
        before = [ground, enter(1, 0), give(1, [1, 2]), enter(3, 3), give(3, [4, 0, 5])]
        self.assertEqual(after(before, tick(), stands(3, 4, 1), tick(), stands(1, 1, 1), tick()),
                         [told(go(1, 1, 1), go(3, 4, 1)), [1, 0], told(), [1, 0], told(go(1, 2, 2), go(3, 0, 2))])

    def test_room_made_by_a_drop(self):
        before = [TRACK, enter(1, 0), enter(2, 4), give(1, [1, 2, 3, 6]), give(2, [3, 2, 1, 5]), tick(),
                  stands(1, 1, 1)]
        self.assertEqual(after(before, drop(1), drop(2), drop(1), tick()), [[-11, 0], [0, 0], [0, 0], told()])


class TenthTickTest(unittest.TestCase):
    def test_that_frame_again(self):
        before = [GROUND, enter(1, 0), give(1, [1, 2])]
        again = [told()] * 9 + [told(go(1, 1, 1))]
        self.assertEqual(after(before, *[tick()] * 30), [told(go(1, 1, 1))] + again[1:] + again + again)

    def test_counted_from_the_start_of_the_tower(self):
        before = [GROUND] + [tick()] * 8 + [enter(1, 0), give(1, [1, 2])]
        self.assertEqual(after(before, *[tick()] * 12),
                         [told(go(1, 1, 1)), told(go(1, 1, 1))] + [told()] * 9 + [told(go(1, 1, 1))])

    def test_moves_on_the_tenth_are_told_once(self):
        before = [GROUND] + [tick()] * 9 + [enter(1, 0), give(1, [1, 2])]
        self.assertEqual(after(before, tick(), tick()), [told(go(1, 1, 1)), told()])

    def test_new_and_again_in_one_tick(self):
        ground = start(8, [(0, 1), (2, 3), (4, 5), (6, 7)])
        before = [ground, enter(5, 0), give(5, [1]), enter(2, 6)] + [tick()] * 9
        before += [enter(7, 2), give(7, [3]), enter(3, 4), give(3, [5])]
        self.assertEqual(after(before, tick()), [told(go(3, 5, 1), go(5, 1, 1), go(7, 3, 1))])

    def test_not_when_nothing_is_behind_it(self):
        before = [GROUND, enter(1, 0), give(1, [1])] + [tick()] * 9 + [stands(1, 1, 1)]
        self.assertEqual(after(before, tick()), [told()])

    def test_again_without_a_way_any_more(self):
        before = [GROUND, enter(1, 0), give(1, [1, 2])] + [tick()] * 5 + [drop(1)]
        self.assertEqual(after(before, *[tick()] * 5), [told()] * 4 + [told(go(1, 1, 1))])


class LastNumberTest(unittest.TestCase):
    # No line is long enough to count that far, so the tower's own number is set here.
    def tower(self, number):
        tower = Tower(4, [0, 1, 1, 2, 2, 3])
        tower.numbers[5] = number
        self.assertEqual(tower.enter(5, 0), number)
        self.assertEqual(tower.give(5, [1, 2]), 0)
        return tower

    def test_up_to_the_last(self):
        tower = self.tower(2147483646)
        self.assertEqual(tower.tick(), [(5, go(5, 1, 2147483647)[2:])])
        self.assertEqual(tower.heard(stands(5, 1, 2147483647)[2:]), 1)
        self.assertEqual([tower.tick() for _ in range(10)], [[]] * 10)

    def test_none_behind_the_last(self):
        self.assertEqual(self.tower(2147483647).tick(), [])

    def test_the_last_is_told_again(self):
        tower = self.tower(2147483646)
        rows = [tower.tick() for _ in range(10)]
        self.assertEqual(rows[1:], [[]] * 8 + [[(5, go(5, 1, 2147483647)[2:])]])


if __name__ == "__main__":
    unittest.main()
