import unittest

from tests.asking import BIGGEST, PAIRS, ask, begins, check


class Check(unittest.TestCase):
    def test_one_bout(self):
        for one, other in PAIRS:
            self.assertEqual(ask(check(one, other, [1])), [[3, 1, one, other]])
            self.assertEqual(ask(check(one, other, [0])), [[3, 1, other, one]])

    def test_ends_at_once(self):
        for one, other in PAIRS:
            waits = 3 - one - other
            self.assertEqual(ask(check(one, other, [1, 1])), [[one, 2, one, waits]])
            self.assertEqual(ask(check(one, other, [0, 1])), [[other, 2, other, waits]])

    def test_ends_later(self):
        # 0 beats 1, 2 beats 0, 1 beats 2, 1 beats 0.
        self.assertEqual(ask(check(0, 1, [1, 0, 0, 1])), [[1, 4, 1, 0]])
        # 0 beats 2, 1 beats 0, 2 beats 1, 2 beats 0.
        self.assertEqual(ask(check(2, 0, [0, 0, 0, 1])), [[2, 4, 2, 0]])
        # 1 beats 0, 2 beats 1, 2 beats 0.
        self.assertEqual(ask(check(0, 1, [0, 0, 1])), [[2, 3, 2, 0]])

    def test_not_yet(self):
        self.assertEqual(ask(check(0, 1, [1, 0])), [[3, 2, 2, 0]])
        self.assertEqual(ask(check(0, 1, [1, 0, 0])), [[3, 3, 1, 2]])
        self.assertEqual(ask(check(0, 1, [1, 0, 0, 0])), [[3, 4, 0, 1]])
        self.assertEqual(ask(check(0, 1, [0, 0])), [[3, 2, 2, 1]])

    def test_twenty_bouts(self):
        self.assertEqual(ask(check(0, 1, [1] + [0] * 19)), [[3, 20, 2, 0]])
        self.assertEqual(ask(check(0, 1, [1] + [0] * 18 + [1])), [[0, 20, 0, 2]])

    def test_bouts_behind_the_end_change_nothing(self):
        for behind in ([0], [1], [0, 0, 1], [1, 1, 0], [0] * 16):
            self.assertEqual(ask(check(0, 1, [1, 0, 0, 1] + behind)), [[1, 4, 1, 0]])
            self.assertEqual(ask(check(1, 2, [0, 1] + behind)), [[2, 2, 2, 0]])

    def test_strengths_do_not_matter(self):
        for strengths in ((0, 0, 0), (100, 100, 100), (100, 50, 0)):
            self.assertEqual(ask(begins(*strengths), check(0, 1, [0, 0, 1])), [[0], [2, 3, 2, 0]])

    def test_no_such_wrestler_or_the_same(self):
        for one, other in ((3, 0), (0, 3), (BIGGEST, 1), (1, BIGGEST), (3, 3), (0, 0), (1, 1), (2, 2)):
            with self.subTest(one=one, other=other):
                self.assertEqual(ask(check(one, other, [1, 1])), [[-2]])

    def test_no_bouts(self):
        self.assertEqual(ask(check(0, 1, [])), [[-1]])

    def test_neither_0_nor_1(self):
        for wrong in (2, 3, BIGGEST):
            for bouts in ([wrong], [wrong, 1], [1, wrong], [0, 0, wrong], [1, 0, wrong, 1]):
                with self.subTest(bouts=bouts):
                    self.assertEqual(ask(check(0, 1, bouts)), [[-1]])

    def test_neither_0_nor_1_behind_the_end(self):
        for wrong in (2, BIGGEST):
            self.assertEqual(ask(check(0, 1, [1, 1, wrong])), [[-1]])
            self.assertEqual(ask(check(0, 1, [0, 0, 1, 0, 1, wrong])), [[-1]])

    def test_wrestlers_are_refused_ahead_of_bouts(self):
        for bouts in ([], [2], [1, 1, 2]):
            for one, other in ((3, 0), (0, 3), (1, 1)):
                self.assertEqual(ask(check(one, other, bouts)), [[-2]])
