import unittest
from fractions import Fraction

from tests.asking import BIGGEST, PAIRS, STRENGTHS, ask, begins, fraction, long, walked, worked_out


class Long(unittest.TestCase):
    def test_at_the_beginning(self):
        for one, other in PAIRS:
            self.assertEqual(ask(long(one, other)), [[0, 3, 1]])

    def test_worked_by_hand(self):
        # 1 bout; then 1, 1/2 and 1/4 a time round, which ends it at 3/4.
        self.assertEqual(ask(begins(100, 50, 50), long(0, 1), long(1, 0)), [[0], [0, 10, 3], [0, 10, 3]])
        # 0 beats all: in the first two bouts, or in the second and the third.
        self.assertEqual(ask(begins(100, 50, 0), long(0, 2), long(2, 1)), [[0], [0, 2, 1], [0, 3, 1]])

    def test_each_way_to_begin(self):
        for strengths in STRENGTHS:
            for one, other in PAIRS:
                won, length = worked_out(strengths, one, other)
                with self.subTest(strengths=strengths, one=one, other=other):
                    self.assertEqual(ask(begins(*strengths), long(one, other))[1], [0] + fraction(length))

    def test_is_what_a_walk_bout_by_bout_comes_near(self):
        for strengths in ((60, 70, 20), (90, 80, 30), (10, 45, 30)):
            for one, other in PAIRS:
                won, length, left = walked(strengths, one, other, 150)
                said = ask(begins(*strengths), long(one, other))[1]
                self.assertTrue(0 <= Fraction(said[1], said[2]) - length < Fraction(1, 10 ** 9))

    def test_no_such_wrestler_or_the_same(self):
        for call in (long(3, 1), long(1, 3), long(BIGGEST, 0), long(0, BIGGEST), long(3, 3), long(0, 0), long(2, 2)):
            with self.subTest(call=call):
                self.assertEqual(ask(call), [[-2]])

    def test_round_for_ever(self):
        for strengths in ((100, 100, 100), (0, 0, 0)):
            for one, other in PAIRS:
                self.assertEqual(ask(begins(*strengths), long(one, other)), [[0], [-6]])
            self.assertEqual(ask(begins(*strengths), long(1, 1), long(3, 0), long(0, 3)), [[0], [-2], [-2], [-2]])

    def test_just_not_for_ever(self):
        # 1 bout; at 99 of a hundred then 3 a time round, which ends it at 1 of a hundred; else 1 more.
        self.assertEqual(ask(begins(99, 100, 100), long(0, 1))[1], [0, 29801, 100])
        self.assertEqual(ask(begins(1, 0, 0), long(0, 1))[1], [0, 29801, 100])
