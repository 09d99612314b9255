import unittest
from math import isqrt

from helper import FAR, RING, ROOT, ask, ring_fault


class RingTest(unittest.TestCase):

    def check(self, p, q, n):
        told = ask([RING, p, q, n])
        if isqrt(n) ** 2 == n:
            self.assertEqual(told, [-3], (p, q, n))
            return
        behind = 1 + told[0]
        ahead = told[1:behind]
        ring = told[behind + 1:]
        self.assertEqual(told[behind], len(ring), (p, q, n))
        self.assertIsNone(ring_fault(p, q, n, ahead, ring), (p, q, n))

    def refused(self, p, q, n, refusal):
        self.assertEqual(ask([RING, p, q, n]), [refusal], (p, q, n))

    def test_by_hand(self):
        self.assertEqual(ask([RING, 0, 1, 2]), [1, 1, 1, 2])
        self.assertEqual(ask([RING, 1, 1, 3]), [0, 2, 2, 1])
        self.assertEqual(ask([RING, 1, 3, 2]), [2, 0, 1, 2, 4, 8])

    def test_nothing_ahead(self):
        self.assertEqual(ask([RING, 1, 2, 5]), [0, 1, 1])
        self.assertEqual(ask([RING, 1, 1, 2]), [0, 1, 2])
        self.assertEqual(ask([RING, 2, 1, 7]), [0, 4, 4, 1, 1, 1])

    def test_number_below_that_is_below_nothing(self):
        self.assertEqual(ask([RING, 0, -1, 2]), [3, -2, 1, 1, 1, 2])
        self.assertEqual(ask([RING, 1, -2, 5]), [2, -2, 2, 1, 1])
        self.assertEqual(ask([RING, -5, -1, 2]), [3, 3, 1, 1, 1, 2])

    def test_number_below_that_does_not_divide(self):
        self.assertEqual(ask([RING, 0, 2, 3]), [2, 0, 1, 2, 6, 2])
        self.assertEqual(ask([RING, 0, 2, 2]), [2, 0, 1, 1, 2])
        self.assertEqual(ask([RING, 0, -2, 2]), [2, -1, 3, 1, 2])

    def test_second_way(self):
        for p in range(-5, 6):
            for q in (-7, -4, -3, -2, -1, 1, 2, 3, 4, 6):
                for n in range(1, 24):
                    self.check(p, q, n)

    def test_second_way_farther(self):
        for p in range(-100, 101, 40):
            for q in (-100, -64, -9, 8, 49, 100):
                for n in (2, 19, 96, 999, 1000):
                    self.check(p, q, n)

    def test_as_root(self):
        for n in (2, 46, 94, 991, 1000):
            told = ask([ROOT, n])
            self.assertEqual(ask([RING, 0, 1, n]), [1, told[1], told[0]] + told[2:], n)

    def test_last_that_are_taken(self):
        self.check(100, 100, 1000)
        self.check(-100, -100, 1000)
        self.check(100, -100, 999)
        self.check(-100, 100, 2)
        self.check(-100, 1, 1000)

    def test_long_ring(self):
        told = ask([RING, 1, 97, 991])
        self.check(1, 97, 991)
        self.assertGreater(len(told), 1000)

    def test_square_numbers(self):
        for whole in range(1, 32):
            self.refused(0, 1, whole * whole, -3)
            self.refused(-100, 100, whole * whole, -3)

    def test_refused(self):
        self.refused(0, 0, 2, -1)
        self.refused(0, 101, 2, -1)
        self.refused(0, -101, 2, -1)
        self.refused(101, 1, 2, -1)
        self.refused(-101, 1, 2, -1)
        self.refused(0, 1, 0, -1)
        self.refused(0, 1, 1001, -1)

    def test_refusal_told_first(self):
        self.refused(0, 0, 4, -1)
        self.refused(0, 101, 4, -1)
        self.refused(0, -101, 4, -1)
        self.refused(101, 1, 4, -1)
        self.refused(-101, 1, 4, -1)
        self.refused(0, 1, 1024, -1)
        self.refused(101, 0, 0, -1)

    def test_far_numbers(self):
        self.refused(FAR, 1, 2, -1)
        self.refused(-FAR, 1, 2, -1)
        self.refused(0, FAR, 2, -1)
        self.refused(0, -FAR, 2, -1)
        self.refused(0, 1, FAR, -1)
        self.refused(-FAR, FAR, FAR, -1)


if __name__ == "__main__":
    unittest.main()
