import unittest
from math import isqrt

from helper import FAR, MINUS_ONE, ONE, ask, is_square, slow_pairs

MOST = 1000


class MinusOneTest(unittest.TestCase):

    def told(self, n, x, y):
        self.assertEqual(ask([MINUS_ONE, n]), [0, x, y], n)

    def refused(self, n, refusal):
        self.assertEqual(ask([MINUS_ONE, n]), [refusal], n)

    def check(self, n):
        """That the answer is right, by the least pair with 1: it is the square of the least with -1, if there is one."""
        x, y = ask([ONE, n, 1])[1:]
        u = isqrt((x - 1) // 2)
        v = isqrt((x + 1) // (2 * n))
        if x == 2 * u * u + 1 and x == 2 * n * v * v - 1:
            self.assertEqual(u * u - n * v * v, -1, n)
            self.assertEqual(2 * u * v, y, n)
            self.told(n, u, v)
        else:
            self.refused(n, -6)

    def test_by_hand(self):
        self.told(2, 1, 1)
        self.told(5, 2, 1)
        self.told(10, 3, 1)
        self.told(13, 18, 5)
        self.told(29, 70, 13)
        self.told(41, 32, 5)
        self.told(61, 29718, 3805)
        self.told(109, 8890182, 851525)
        self.told(962, 31, 1)

    def test_none_by_hand(self):
        for n in (3, 6, 7, 8, 11, 12, 14, 15, 34, 146, 205, 991, 999, MOST):
            self.refused(n, -6)

    def test_none_where_four_or_such_a_prime_divides(self):
        # A square less by one than a multiple of 4, 3, 7 or 11 there never is.
        for n in range(1, MOST + 1):
            if not is_square(n) and (n % 4 == 0 or n % 3 == 0 or n % 7 == 0 or n % 11 == 0):
                self.refused(n, -6)

    def test_second_way(self):
        found = 0
        for n in range(2, MOST + 1):
            if not is_square(n):
                pairs = slow_pairs(n, -1, 600)
                if pairs:
                    self.told(n, pairs[0][0], pairs[0][1])
                    found += 1
        self.assertGreater(found, 60)

    def test_every_number(self):
        for n in range(1, MOST + 1):
            if is_square(n):
                self.refused(n, -3)
            else:
                self.check(n)

    def test_refused(self):
        self.refused(0, -1)
        self.refused(1, -3)
        self.refused(4, -3)
        self.refused(961, -3)
        self.refused(MOST, -6)
        self.refused(MOST + 1, -1)

    def test_refusal_told_first(self):
        self.refused(1024, -1)
        self.refused(1026, -1)
        self.refused(1023, -1)
        self.refused(94906265 * 94906265, -1)

    def test_far_numbers(self):
        self.refused(FAR, -1)
        self.refused(FAR - 1, -1)


if __name__ == "__main__":
    unittest.main()
