import unittest

from helper import FAR, NEAR, ask, slow_near

MOST = 1000000


class NearTest(unittest.TestCase):

    def check(self, n, d, m):
        self.assertEqual(ask([NEAR, n, d, m]), slow_near(n, d, m), (n, d, m))

    def refused(self, n, d, m):
        self.assertEqual(ask([NEAR, n, d, m]), [-1], (n, d, m))

    def test_by_hand(self):
        self.assertEqual(ask([NEAR, 314159, 100000, 300]), [0, 355, 113])
        self.assertEqual(ask([NEAR, 314159, 100000, 112]), [0, 333, 106])
        self.assertEqual(ask([NEAR, 314159, 100000, 10]), [0, 22, 7])
        self.assertEqual(ask([NEAR, 314159, 100000, 1]), [0, 3, 1])
        self.assertEqual(ask([NEAR, 19, 10, 1]), [0, 2, 1])

    def test_itself(self):
        self.assertEqual(ask([NEAR, 3, 7, 7]), [0, 3, 7])
        self.assertEqual(ask([NEAR, 3, 7, 300]), [0, 3, 7])
        self.assertEqual(ask([NEAR, 299, 300, 300]), [0, 299, 300])
        self.assertEqual(ask([NEAR, 12, 1, 5]), [0, 12, 1])

    def test_not_in_lowest_terms(self):
        self.assertEqual(ask([NEAR, 50, 100, 300]), [0, 1, 2])
        self.assertEqual(ask([NEAR, 6, 14, 7]), [0, 3, 7])
        self.assertEqual(ask([NEAR, MOST, MOST, 300]), [0, 1, 1])
        self.assertEqual(ask([NEAR, 0, 9, 300]), [0, 0, 1])

    def test_two_as_near(self):
        self.assertEqual(ask([NEAR, 1, 2, 1]), [0, 0, 1])
        self.assertEqual(ask([NEAR, 7, 2, 1]), [0, 3, 1])
        self.assertEqual(ask([NEAR, 5, 12, 3]), [0, 1, 2])
        self.assertEqual(ask([NEAR, 7, 12, 3]), [0, 1, 2])
        self.assertEqual(ask([NEAR, 1, 4, 2]), [0, 0, 1])
        self.assertEqual(ask([NEAR, 3, 4, 2]), [0, 1, 1])

    def test_second_way(self):
        for d in range(1, 26):
            for n in range(0, 2 * d + 2):
                for m in range(1, 9):
                    self.check(n, d, m)

    def test_all_halves_between_neighbours(self):
        for m in (2, 5, 6):
            for d in range(1, 2 * m * m + 1):
                for n in range(0, d + 1):
                    self.check(n, d, m)

    def test_second_way_farther(self):
        for n in (1, 271828, 333333, 618034, 999999, MOST):
            for d in (1, 7, 1001, 414214, 999999, MOST):
                for m in (1, 2, 299, 300):
                    self.check(n, d, m)

    def test_last_that_are_taken(self):
        self.assertEqual(ask([NEAR, MOST, 1, 300]), [0, MOST, 1])
        self.assertEqual(ask([NEAR, 1, MOST, 300]), [0, 0, 1])
        self.assertEqual(ask([NEAR, 0, MOST, 1]), [0, 0, 1])
        self.assertEqual(ask([NEAR, 3334, MOST, 300]), [0, 1, 300])

    def test_refused(self):
        self.refused(1, 0, 1)
        self.refused(1, MOST + 1, 1)
        self.refused(-1, 1, 1)
        self.refused(MOST + 1, 1, 1)
        self.refused(1, 1, 0)
        self.refused(1, 1, 301)
        self.refused(-1, 0, 0)
        self.refused(-1, MOST + 1, 301)

    def test_far_numbers(self):
        self.refused(FAR, 1, 1)
        self.refused(-FAR, 1, 1)
        self.refused(1, FAR, 1)
        self.refused(1, 1, FAR)
        self.refused(FAR, FAR, FAR)


if __name__ == "__main__":
    unittest.main()
