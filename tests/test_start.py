"""Promise 1: tg_start."""

import unittest

from helper import TOP, chain, enter, give, go, leave, number_of, run, stands, start, tick, told


class StartTest(unittest.TestCase):
    def test_how_many_pieces(self):
        for n, answer in ((0, -22), (1, 0), (2, 0), (255, 0), (256, 0), (257, -22), (65536, -22), (TOP, -22)):
            self.assertEqual(run(start(n)), [[answer, 0]], n)

    def test_how_many_pairs(self):
        pairs = [(k % 256, (k + 1 + k // 256) % 256) for k in range(1030)]
        for many, answer in ((0, 0), (1, 0), (1023, 0), (1024, 0), (1025, -22), (1030, -22)):
            self.assertEqual(run(start(256, pairs[:many])), [[answer, 0]], many)

    def test_pairs_told_again_count_too(self):
        self.assertEqual(number_of(start(2, [(0, 1)] * 1024)), 0)
        self.assertEqual(number_of(start(2, [(0, 1)] * 1025)), -22)

    def test_numbers_of_pairs_are_pieces(self):
        self.assertEqual(number_of(start(5, [(3, 4)])), 0)
        self.assertEqual(number_of(start(5, [(3, 5)])), -22)
        self.assertEqual(number_of(start(5, [(5, 3)])), -22)
        self.assertEqual(number_of(start(5, chain(5) + [(0, 255)])), -22)
        self.assertEqual(number_of(start(1, [(0, 0)])), 0)
        self.assertEqual(number_of(start(256, [(0, 255)])), 0)

    def test_that_is_the_ground(self):
        self.assertEqual(number_of(start(3), enter(0, 2)), 0)
        self.assertEqual(number_of(start(3), enter(0, 3)), -22)
        self.assertEqual(number_of(start(3, [(0, 1)]), enter(0, 0), give(0, [1])), 0)
        self.assertEqual(number_of(start(3, [(0, 1)]), enter(0, 1), give(0, [0])), 0)
        self.assertEqual(number_of(start(3, [(0, 1)]), enter(0, 0), give(0, [2])), -22)
        self.assertEqual(number_of(start(256, [(254, 255)]), enter(0, 254), give(0, [255])), 0)

    def test_refused_till_one_answers_0(self):
        self.assertEqual(run(start(0), start(257), start(1), enter(0, 0)), [[-22, 0], [-22, 0], [0, 0], [0, 0]])

    def test_again_nobody_is_there(self):
        before = [start(3, chain(3)), enter(0, 0), enter(1, 2)]
        self.assertEqual(number_of(*before, start(3, chain(3)), leave(0)), -22)
        self.assertEqual(number_of(*before, start(3, chain(3)), enter(1, 0)), 0)

    def test_again_numbers_are_0(self):
        before = [start(3, chain(3)), enter(0, 0), give(0, [1]), tick(), stands(0, 1, 1), leave(0)]
        self.assertEqual(number_of(*before, enter(0, 0)), 1)
        self.assertEqual(number_of(*before, start(3, chain(3)), enter(0, 0)), 0)

    def test_again_no_ticks(self):
        told_to_go = [enter(0, 0), give(0, [1, 2])]
        before = [start(3, chain(3))] + [tick()] * 7 + [start(3, chain(3))] + told_to_go
        ticks = run(*before, *[tick()] * 10)[len(before):]
        self.assertEqual(ticks, [told(go(0, 1, 1))] + [told()] * 8 + [told(go(0, 1, 1))])

    def test_again_another_ground(self):
        before = [start(4, chain(4)), start(2, [])]
        self.assertEqual(number_of(*before, enter(0, 2)), -22)
        self.assertEqual(number_of(*before, enter(0, 0), give(0, [1])), -22)

    def test_refused_again_changes_nothing(self):
        before = [start(3, chain(3)), enter(0, 0), give(0, [1, 2])] + [tick()] * 4
        for wrong in (start(0), start(257, [(0, 2)]), start(3, [(0, 3)]), start(3, [(0, 2)] * 1025)):
            after = run(*before, wrong, *[tick()] * 6, stands(0, 1, 1), tick(), enter(1, 0), enter(1, 3))
            self.assertEqual(after[len(before)], [-22, 0])
            self.assertEqual(after[len(before) + 1:],
                             [told()] * 5 + [told(go(0, 1, 1)), [1, 0], told(go(0, 2, 2)), [0, 0], [-22, 0]])


if __name__ == "__main__":
    unittest.main()
