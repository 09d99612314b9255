import unittest
from fractions import Fraction

from helper import FAR, TERMS, ask, slow_terms

MOST = 1000000


class TermsTest(unittest.TestCase):

    def check(self, n, d):
        row = slow_terms(Fraction(n, d))
        self.assertEqual(ask([TERMS, n, d]), [len(row)] + row, (n, d))

    def refused(self, n, d):
        self.assertEqual(ask([TERMS, n, d]), [-1], (n, d))

    def test_by_hand(self):
        self.assertEqual(ask([TERMS, 355, 113]), [3, 3, 7, 16])
        self.assertEqual(ask([TERMS, 1, 2]), [2, 0, 2])
        self.assertEqual(ask([TERMS, 3, 2]), [2, 1, 2])
        self.assertEqual(ask([TERMS, 13, 8]), [5, 1, 1, 1, 1, 2])

    def test_below_nothing(self):
        self.assertEqual(ask([TERMS, -7, 3]), [3, -3, 1, 2])
        self.assertEqual(ask([TERMS, -1, 2]), [2, -1, 2])
        self.assertEqual(ask([TERMS, -6, 3]), [1, -2])

    def test_whole(self):
        self.assertEqual(ask([TERMS, 0, 1]), [1, 0])
        self.assertEqual(ask([TERMS, 0, 12]), [1, 0])
        self.assertEqual(ask([TERMS, 1, 1]), [1, 1])
        self.assertEqual(ask([TERMS, 12, 4]), [1, 3])

    def test_not_in_lowest_terms(self):
        self.assertEqual(ask([TERMS, 710, 226]), [3, 3, 7, 16])

    def test_second_way(self):
        for n in range(-60, 61):
            for d in range(1, 41):
                self.check(n, d)

    def test_long_rows(self):
        self.check(832040, 514229)
        self.check(-832040, 514229)
        self.check(514229, 832040)
        for n in range(999900, 1000001):
            self.check(n, 618033)
            self.check(-n, 618033)

    def test_last_that_are_taken(self):
        self.assertEqual(ask([TERMS, MOST, 1]), [1, MOST])
        self.assertEqual(ask([TERMS, -MOST, 1]), [1, -MOST])
        self.assertEqual(ask([TERMS, 1, MOST]), [2, 0, MOST])
        self.assertEqual(ask([TERMS, MOST, MOST]), [1, 1])
        self.assertEqual(ask([TERMS, -MOST, MOST]), [1, -1])
        self.assertEqual(ask([TERMS, -1, MOST]), [3, -1, 1, MOST - 1])

    def test_refused(self):
        self.refused(1, 0)
        self.refused(0, 0)
        self.refused(1, MOST + 1)
        self.refused(MOST + 1, 1)
        self.refused(-MOST - 1, 1)
        self.refused(MOST + 1, MOST + 1)
        self.refused(-MOST - 1, 0)

    def test_far_numbers(self):
        self.refused(FAR, 1)
        self.refused(-FAR, 1)
        self.refused(1, FAR)
        self.refused(FAR, FAR)
        self.refused(-FAR, FAR)
        self.refused(FAR, 0)


if __name__ == "__main__":
    unittest.main()
