import unittest

from helper import FAR, ROOT, ask, is_square, ring_fault

MOST = 1000000


class RootTest(unittest.TestCase):

    def check(self, n):
        told = ask([ROOT, n])
        if is_square(n):
            self.assertEqual(told, [-3], n)
            return
        self.assertEqual(len(told), 2 + told[0], n)
        self.assertIsNone(ring_fault(0, 1, n, told[1:2], told[2:]), n)

    def refused(self, n, refusal):
        self.assertEqual(ask([ROOT, n]), [refusal], n)

    def test_by_hand(self):
        self.assertEqual(ask([ROOT, 2]), [1, 1, 2])
        self.assertEqual(ask([ROOT, 3]), [2, 1, 1, 2])
        self.assertEqual(ask([ROOT, 5]), [1, 2, 4])
        self.assertEqual(ask([ROOT, 7]), [4, 2, 1, 1, 1, 4])
        self.assertEqual(ask([ROOT, 13]), [5, 3, 1, 1, 1, 1, 6])
        self.assertEqual(ask([ROOT, 999999]), [2, 999, 1, 1998])

    def test_second_way(self):
        for n in range(1, 700):
            self.check(n)

    def test_beside_square_numbers(self):
        for whole in (31, 316, 500, 999):
            for n in range(whole * whole - 2, whole * whole + 3):
                self.check(n)

    def test_long_rings(self):
        self.check(999541)
        self.check(999999)
        self.check(999998)
        self.check(999997)

    def test_square_numbers(self):
        for whole in range(1, 1001):
            self.refused(whole * whole, -3)

    def test_refused(self):
        self.refused(0, -1)
        self.refused(MOST + 1, -1)
        self.refused(FAR - 1, -1)

    def test_refusal_told_first(self):
        self.refused(1001 * 1001, -1)
        self.refused(94906265 * 94906265, -1)
        self.refused(FAR, -1)


if __name__ == "__main__":
    unittest.main()
