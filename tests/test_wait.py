import unittest

from tests.asking import BIGGEST, STRENGTHS, ask, begins, fraction, odds, wait, worked_out


def best_way(strengths, wrestler):
    chances = [worked_out(strengths, (who + 1) % 3, (who + 2) % 3)[0][wrestler] for who in range(3)]
    return [chances.index(max(chances))] + fraction(max(chances))


class Wait(unittest.TestCase):
    def test_at_the_beginning_the_lowest_of_two(self):
        self.assertEqual(ask(wait(0), wait(1), wait(2)), [[1, 5, 14], [0, 5, 14], [0, 5, 14]])

    def test_the_lowest_of_three(self):
        self.assertEqual(ask(begins(100, 50, 0), wait(0), wait(1), wait(2))[1:], [[0, 1, 1], [0, 0, 1], [0, 0, 1]])

    def test_worked_by_hand(self):
        # 2 always beats 1, the others are even. For 0 it's 5/12 if 2 waits, 1/3 if 1 does, 1/4 if 0 does.
        self.assertEqual(ask(begins(50, 0, 50), wait(0))[1], [2, 5, 12])
        # The same with the wrestlers' numbers moved on by one, and by two.
        self.assertEqual(ask(begins(50, 50, 0), wait(1))[1], [0, 5, 12])
        self.assertEqual(ask(begins(0, 50, 50), wait(2))[1], [1, 5, 12])

    def test_each_wrestler(self):
        for strengths in STRENGTHS:
            for wrestler in range(3):
                said = ask(begins(*strengths), wait(wrestler))[1]
                with self.subTest(strengths=strengths, wrestler=wrestler):
                    self.assertEqual(said, best_way(strengths, wrestler))

    def test_it_is_what_odds_tells_of_that_way_and_no_other_is_likelier(self):
        for strengths in STRENGTHS:
            for wrestler in range(3):
                ways = [odds((who + 1) % 3, (who + 2) % 3, wrestler) for who in range(3)]
                said = ask(begins(*strengths), wait(wrestler), *ways)
                who, above, below = said[1]
                self.assertEqual(said[2 + who], [0, above, below])
                for other in said[2:]:
                    self.assertLessEqual(other[1] * below, above * other[2])

    def test_no_such_wrestler(self):
        for wrong in (3, 4, BIGGEST):
            self.assertEqual(ask(wait(wrong)), [[-2]])

    def test_round_for_ever_by_each_way(self):
        for strengths in ((100, 100, 100), (0, 0, 0)):
            self.assertEqual(
                ask(begins(*strengths), wait(0), wait(1), wait(2), wait(3)),
                [[0], [-6], [-6], [-6], [-2]])

    def test_just_not_for_ever(self):
        self.assertEqual(ask(begins(100, 100, 99), wait(0))[1], best_way((100, 100, 99), 0))
        self.assertEqual(ask(begins(0, 1, 0), wait(2))[1], best_way((0, 1, 0), 2))
