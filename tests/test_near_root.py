import unittest

from helper import FAR, NEAR_ROOT, ask, slow_near_root

MOST = 1000000


class NearRootTest(unittest.TestCase):

    def check(self, n, m):
        self.assertEqual(ask([NEAR_ROOT, n, m]), slow_near_root(n, m), (n, m))

    def refused(self, n, m):
        self.assertEqual(ask([NEAR_ROOT, n, m]), [-1], (n, m))

    def test_by_hand(self):
        self.assertEqual(ask([NEAR_ROOT, 2, 1]), [0, 1, 1])
        self.assertEqual(ask([NEAR_ROOT, 2, 2]), [0, 3, 2])
        self.assertEqual(ask([NEAR_ROOT, 2, 3]), [0, 4, 3])
        self.assertEqual(ask([NEAR_ROOT, 2, 5]), [0, 7, 5])
        self.assertEqual(ask([NEAR_ROOT, 2, 12]), [0, 17, 12])
        self.assertEqual(ask([NEAR_ROOT, 2, 300]), [0, 239, 169])
        self.assertEqual(ask([NEAR_ROOT, 3, 1]), [0, 2, 1])
        self.assertEqual(ask([NEAR_ROOT, 3, 4]), [0, 7, 4])
        self.assertEqual(ask([NEAR_ROOT, 10, 6]), [0, 19, 6])

    def test_square_numbers(self):
        for root in list(range(1, 40)) + [500, 999, 1000]:
            for m in (1, 2, 7, 300):
                self.assertEqual(ask([NEAR_ROOT, root * root, m]), [0, root, 1], (root, m))

    def test_both_sides_with_one_below(self):
        for root in range(1, 1000, 9):
            square = root * root
            self.assertEqual(ask([NEAR_ROOT, square + root, 1]), [0, root, 1], root)
            self.assertEqual(ask([NEAR_ROOT, square + root + 1, 1]), [0, root + 1, 1], root)

    def test_second_way(self):
        for n in range(1, 61):
            for m in range(1, 16):
                self.check(n, m)

    def test_second_way_every_number_below(self):
        for n in (2, 3, 7, 61, 999999):
            for m in range(1, 301, 7):
                self.check(n, m)

    def test_second_way_farther(self):
        for n in (101, 991, 1000, 27183, 314159, 500000, 998001 + 999, 999998, 999999, MOST):
            for m in (1, 2, 3, 150, 299, 300):
                self.check(n, m)

    def test_last_that_are_taken(self):
        self.assertEqual(ask([NEAR_ROOT, 1, 1]), [0, 1, 1])
        self.assertEqual(ask([NEAR_ROOT, MOST, 300]), [0, 1000, 1])
        self.assertEqual(ask([NEAR_ROOT, MOST, 1]), [0, 1000, 1])
        self.assertEqual(ask([NEAR_ROOT, 999999, 300]), [0, 1000, 1])
        self.assertEqual(ask([NEAR_ROOT, 90001, 300]), [0, 300, 1])
        self.assertEqual(ask([NEAR_ROOT, 22501, 300]), [0, 45001, 300])

    def test_refused(self):
        self.refused(0, 1)
        self.refused(MOST + 1, 1)
        self.refused(2, 0)
        self.refused(2, 301)
        self.refused(4, 0)
        self.refused(4, 301)
        self.refused(0, 0)
        self.refused(MOST + 1, 301)

    def test_far_numbers(self):
        self.refused(FAR, 1)
        self.refused(FAR - 1, 300)
        self.refused(1, FAR)
        self.refused(FAR, FAR)
        self.refused(0, FAR)
        self.refused(FAR, 0)


if __name__ == "__main__":
    unittest.main()
