import unittest

from tests.asking import BIGGEST, ask, begins, fraction, long, odds, wait, worked_out


class Begins(unittest.TestCase):
    def test_answers_0_alone(self):
        self.assertEqual(ask(begins(60, 70, 20)), [[0]])

    def test_later_calls_feel_it(self):
        # 0 beats all: whoever meets it loses.
        self.assertEqual(
            ask(begins(100, 50, 0), odds(0, 1, 0), long(0, 1), wait(1)),
            [[0], [0, 1, 1], [0, 2, 1], [0, 0, 1]])

    def test_earlier_calls_do_not_feel_it(self):
        self.assertEqual(ask(odds(0, 1, 0), begins(100, 50, 0)), [[0, 5, 14], [0]])

    def test_each_number_belongs_to_its_two(self):
        # The one who is told first always wins; the other two are as strong against each other.
        self.assertEqual(ask(begins(100, 50, 50), odds(0, 1, 1))[1], [0, 0, 1])
        self.assertEqual(ask(begins(50, 100, 50), odds(1, 2, 2))[1], [0, 0, 1])
        self.assertEqual(ask(begins(50, 50, 100), odds(2, 0, 0))[1], [0, 0, 1])

    def test_the_last_one_holds(self):
        said = ask(begins(100, 50, 0), begins(60, 70, 20), odds(0, 1, 0))
        won, length = worked_out((60, 70, 20), 0, 1)
        self.assertEqual(said, [[0], [0], [0] + fraction(won[0])])

    def test_0_and_100_are_taken(self):
        for strengths in ((0, 0, 0), (100, 100, 100), (0, 100, 0), (100, 0, 100)):
            self.assertEqual(ask(begins(*strengths)), [[0]])
        self.assertEqual(ask(begins(0, 50, 100), odds(0, 1, 0)), [[0], [0, 0, 1]])

    def test_above_100_is_refused_and_all_stands(self):
        for wrong in (101, BIGGEST):
            for strengths in ((wrong, 50, 50), (50, wrong, 50), (50, 50, wrong), (wrong, wrong, wrong)):
                with self.subTest(strengths=strengths):
                    self.assertEqual(ask(begins(*strengths), odds(0, 1, 0)), [[-1], [0, 5, 14]])
                    self.assertEqual(
                        ask(begins(100, 50, 0), begins(*strengths), odds(0, 1, 0), long(1, 2)),
                        [[0], [-1], [0, 1, 1], [0, 3, 1]])

    def test_none_of_a_refused_one_is_kept(self):
        plain = ask(begins(60, 70, 20), odds(0, 1, 0), odds(0, 1, 1))
        for refused in (begins(101, 3, 4), begins(3, 101, 4), begins(3, 4, 101)):
            said = ask(begins(60, 70, 20), refused, odds(0, 1, 0), odds(0, 1, 1))
            self.assertEqual(said, [[0], [-1]] + plain[1:])
