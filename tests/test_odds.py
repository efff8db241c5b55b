import unittest
from fractions import Fraction
from math import gcd

from tests.asking import BIGGEST, PAIRS, STRENGTHS, ask, begins, fraction, odds, walked, worked_out


class Odds(unittest.TestCase):
    def test_at_the_beginning(self):
        for one, other in PAIRS:
            for wrestler in range(3):
                with self.subTest(one=one, other=other, wrestler=wrestler):
                    due = [0, 5, 14] if wrestler in (one, other) else [0, 2, 7]
                    self.assertEqual(ask(odds(one, other, wrestler)), [due])

    def test_worked_by_hand(self):
        # 0 wins the first bout; then 0, 2 and 1 may win at 1/2, 1/4 and 0, or it's as it was at 1/4.
        said = ask(begins(100, 50, 50), odds(0, 1, 0), odds(0, 1, 1), odds(0, 1, 2), odds(1, 0, 0))
        self.assertEqual(said, [[0], [0, 2, 3], [0, 0, 1], [0, 1, 3], [0, 2, 3]])

    def test_each_wrestler_each_way_to_begin(self):
        for strengths in STRENGTHS:
            for one, other in PAIRS:
                said = ask(begins(*strengths), *[odds(one, other, wrestler) for wrestler in range(3)])
                won, length = worked_out(strengths, one, other)
                with self.subTest(strengths=strengths, one=one, other=other):
                    self.assertEqual(said[1:], [[0] + fraction(chance) for chance in won])

    def test_lies_between_what_a_walk_bout_by_bout_allows(self):
        for strengths in ((60, 70, 20), (33, 1, 98), (90, 80, 75), (10, 25, 30)):
            for one, other in PAIRS:
                won, length, left = walked(strengths, one, other, 60)
                for wrestler in range(3):
                    said = ask(begins(*strengths), odds(one, other, wrestler))[1]
                    chance = Fraction(said[1], said[2])
                    with self.subTest(strengths=strengths, one=one, other=other, wrestler=wrestler):
                        self.assertLess(left, Fraction(1, 1000))
                        self.assertTrue(won[wrestler] <= chance <= won[wrestler] + left)

    def test_lowest_terms(self):
        for strengths in STRENGTHS:
            for wrestler in range(3):
                above, below = ask(begins(*strengths), odds(2, 1, wrestler))[1][1:]
                self.assertEqual(gcd(above, below), 1)
                self.assertGreater(below, 0)

    def test_nothing_and_all(self):
        said = ask(begins(100, 50, 0), odds(1, 2, 0), odds(1, 2, 1), odds(1, 2, 2))
        self.assertEqual(said[1:], [[0, 1, 1], [0, 0, 1], [0, 0, 1]])

    def test_no_such_wrestler(self):
        for wrong in (3, 4, BIGGEST):
            for call in (odds(wrong, 1, 0), odds(0, wrong, 0), odds(0, 1, wrong), odds(wrong, wrong, wrong)):
                with self.subTest(call=call):
                    self.assertEqual(ask(call), [[-2]])

    def test_the_two_who_begin_are_the_same(self):
        for same in range(3):
            for wrestler in range(3):
                self.assertEqual(ask(odds(same, same, wrestler)), [[-2]])

    def test_round_for_ever(self):
        for strengths in ((100, 100, 100), (0, 0, 0)):
            for one, other in PAIRS:
                for wrestler in range(3):
                    self.assertEqual(ask(begins(*strengths), odds(one, other, wrestler)), [[0], [-6]])

    def test_no_such_wrestler_is_told_ahead_of_round_for_ever(self):
        for strengths in ((100, 100, 100), (0, 0, 0)):
            said = ask(begins(*strengths), odds(0, 0, 1), odds(3, 1, 0), odds(0, 3, 1), odds(0, 1, 3))
            self.assertEqual(said, [[0], [-2], [-2], [-2], [-2]])

    def test_just_not_for_ever(self):
        # 1 has beaten 2 ahead of it, and is the only one who can win two in a row.
        self.assertEqual(ask(begins(99, 100, 100), odds(0, 1, 1), odds(0, 1, 0))[1:], [[0, 1, 1], [0, 0, 1]])
        self.assertEqual(ask(begins(1, 0, 0), odds(0, 1, 0), odds(0, 1, 1))[1:], [[0, 1, 1], [0, 0, 1]])
