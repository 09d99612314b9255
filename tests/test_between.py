import unittest

from helper import BETWEEN, FAR, ask, slow_between

MOST = 1000000


class BetweenTest(unittest.TestCase):

    def check(self, a, b, c, d):
        # Otherwise the second way would never come to an end.
        self.assertLess(a * d, c * b, (a, b, c, d))
        self.assertEqual(ask([BETWEEN, a, b, c, d]), slow_between(a, b, c, d), (a, b, c, d))

    def told(self, a, b, c, d, above, below):
        self.assertEqual(ask([BETWEEN, a, b, c, d]), [0, above, below], (a, b, c, d))

    def refused(self, a, b, c, d, refusal):
        self.assertEqual(ask([BETWEEN, a, b, c, d]), [refusal], (a, b, c, d))

    def test_by_hand(self):
        self.told(1, 3, 1, 2, 2, 5)
        self.told(2, 5, 1, 2, 3, 7)
        self.told(1, 3, 2, 3, 1, 2)
        self.told(314, 100, 315, 100, 22, 7)
        self.told(31415, 10000, 31416, 10000, 333, 106)
        self.told(5, 2, 8, 3, 13, 5)

    def test_whole_number_between(self):
        self.told(1, 2, 3, 2, 1, 1)
        self.told(7, 2, 21, 5, 4, 1)
        self.told(0, 1, MOST, MOST - 1, 1, 1)

    def test_several_whole_numbers_between(self):
        self.told(1, 2, 9, 2, 1, 1)
        self.told(5, 2, 100, 3, 3, 1)
        self.told(0, 1, MOST, 1, 1, 1)
        self.told(17, 1, MOST, 1, 18, 1)

    def test_whole_themselves(self):
        self.told(0, 1, 1, 1, 1, 2)
        self.told(3, 1, 4, 1, 7, 2)
        self.told(3, 1, 5, 1, 4, 1)
        self.told(3, 1, 7, 2, 10, 3)
        self.told(7, 2, 4, 1, 11, 3)
        self.told(3, 1, 9, 2, 4, 1)
        self.told(7, 2, 5, 1, 4, 1)
        self.told(0, 5, 1, 3, 1, 4)
        self.told(0, 1, 2, 7, 1, 4)

    def test_not_in_lowest_terms(self):
        self.told(4, 12, 6, 12, 2, 5)
        self.told(6, 2, 12, 3, 7, 2)
        self.told(0, MOST, MOST, MOST, 1, 2)
        self.told(333333, 999999, 500000, MOST, 2, 5)

    def test_second_way(self):
        for b in range(1, 9):
            for d in range(1, 9):
                for a in range(0, 2 * b + 2):
                    for c in range(-1, 3 * d + 2):
                        if a * d < c * b:
                            self.check(a, b, c, d)
                        else:
                            self.refused(a, b, c, d, -3)

    def test_second_way_close(self):
        for b in range(100, 112):
            for d in range(105, 118):
                for a in (1, 38, 55, 70, 99, 271):
                    self.check(a, b, a * d // b + 1, d)

    def test_second_way_farther(self):
        self.check(314159, 100000, 314160, 100000)
        self.check(618033, MOST, 618034, MOST)
        self.check(414213, MOST, 414214, 999999)
        self.check(271828, 100000, 271827, 99999)
        self.check(1, MOST, 1, 999998)
        self.check(1, 999999, MOST, 2)

    def test_all_neighbours(self):
        # Where c b - a d is 1, what lies between has at least b + d below, and a + c above that.
        for b in range(999900, MOST + 1, 7):
            self.told(1, b, 1, b - 1, 2, 2 * b - 1)
            self.told(b - 2, b - 1, b - 1, b, 2 * b - 3, 2 * b - 1)
            self.told(0, 1, 1, b, 1, b + 1)
            self.told(b - 1, b, 1, 1, b, b + 1)

    def test_close_with_long_terms(self):
        self.told(317811, 514229, 514229, 832040, 832040, 1346269)
        self.told(317811, 514229, 196418, 317811, 514229, 832040)
        self.told(470832, 665857, 195025, 275807, 665857, 941664)

    def test_last_that_are_taken(self):
        self.told(MOST - 1, 1, MOST, 1, 2 * MOST - 1, 2)
        self.told(0, MOST, 1, MOST, 1, MOST + 1)
        self.told(MOST - 1, MOST, MOST, MOST, MOST, MOST + 1)
        self.told(MOST, MOST, MOST, MOST - 1, MOST + 1, MOST)
        self.told(MOST, MOST, MOST, 1, 2, 1)
        self.told(MOST - 2, MOST - 1, MOST - 1, MOST, 2 * MOST - 3, 2 * MOST - 1)

    def test_refused(self):
        self.refused(0, 0, 1, 1, -1)
        self.refused(0, MOST + 1, 1, 1, -1)
        self.refused(0, 1, 1, 0, -1)
        self.refused(0, 1, 1, MOST + 1, -1)
        self.refused(-1, 1, 1, 1, -1)
        self.refused(MOST + 1, MOST, MOST, 1, -1)
        self.refused(0, 1, MOST + 1, 1, -1)

    def test_not_above(self):
        self.refused(1, 2, 1, 2, -3)
        self.refused(1, 2, 2, 4, -3)
        self.refused(3, 9, 1, 3, -3)
        self.refused(0, 1, 0, 7, -3)
        self.refused(MOST, MOST, 1, 1, -3)
        self.refused(MOST, 1, MOST, 1, -3)
        self.refused(1, 2, 1, 3, -3)
        self.refused(1, 999999, 1, MOST, -3)
        self.refused(MOST - 1, MOST, MOST - 2, MOST - 1, -3)

    def test_below_nothing(self):
        self.refused(0, 1, -1, 1, -3)
        self.refused(0, 1, -MOST, 1, -3)
        self.refused(5, 3, -5, 2, -3)
        self.refused(MOST, MOST, -MOST, MOST, -3)
        self.refused(0, 1, -MOST - 1, 1, -1)

    def test_refusal_told_first(self):
        self.refused(1, 0, 1, 2, -1)
        self.refused(1, MOST + 1, 0, 1, -1)
        self.refused(1, 1, 1, 0, -1)
        self.refused(1, 1, 0, MOST + 1, -1)
        self.refused(-1, 1, -1, 1, -1)
        self.refused(-1, 1, -2, 1, -1)
        self.refused(MOST + 1, 1, 1, 1, -1)
        self.refused(1, 1, -MOST - 1, 1, -1)
        self.refused(MOST + 1, 1, MOST + 1, 1, -1)
        self.refused(-1, 0, -MOST - 1, 0, -1)

    def test_far_numbers(self):
        self.refused(FAR, 1, 1, 1, -1)
        self.refused(-FAR, 1, 1, 1, -1)
        self.refused(0, FAR, 1, 1, -1)
        self.refused(0, 1, FAR, 1, -1)
        self.refused(0, 1, -FAR, 1, -1)
        self.refused(0, 1, 1, FAR, -1)
        self.refused(FAR, FAR, FAR, FAR, -1)
        self.refused(-FAR, FAR, -FAR, FAR, -1)


if __name__ == "__main__":
    unittest.main()
