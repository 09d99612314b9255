import unittest

from helper import FAR, ask, slow_terms, slow_value, value_call


class ValueTest(unittest.TestCase):

    def value(self, row):
        return ask(value_call(row))

    def check(self, row):
        number = slow_value(row)
        self.assertEqual(self.value(row), [0, number.numerator, number.denominator], row)

    def refused(self, row, refusal):
        self.assertEqual(self.value(row), [refusal], row)

    def test_by_hand(self):
        self.assertEqual(self.value([3, 7, 16]), [0, 355, 113])
        self.assertEqual(self.value([0, 2]), [0, 1, 2])
        self.assertEqual(self.value([1, 1, 1, 1, 2]), [0, 13, 8])

    def test_one_term(self):
        self.assertEqual(self.value([5]), [0, 5, 1])
        self.assertEqual(self.value([0]), [0, 0, 1])
        self.assertEqual(self.value([1]), [0, 1, 1])
        self.assertEqual(self.value([-1]), [0, -1, 1])

    def test_last_term_one(self):
        self.assertEqual(self.value([2, 1]), [0, 3, 1])
        self.assertEqual(self.value([3, 7, 15, 1]), [0, 355, 113])
        self.assertEqual(self.value([-1, 1]), [0, 0, 1])
        self.assertEqual(self.value([0, 1]), [0, 1, 1])
        self.assertEqual(self.value([1, 1, 1]), [0, 3, 2])
        self.assertEqual(self.value([1000, 1]), [0, 1001, 1])

    def test_first_term_below_nothing(self):
        self.assertEqual(self.value([-3, 1, 2]), [0, -7, 3])
        self.assertEqual(self.value([-1, 2]), [0, -1, 2])
        self.assertEqual(self.value([-1, 1, 5]), [0, -1, 6])

    def test_second_way(self):
        for first in range(-4, 5):
            for second in range(1, 6):
                self.check([first, second])
                for third in range(1, 6):
                    self.check([first, second, third])
                    self.check([first, second, third, 1])

    def test_terms_come_back(self):
        for row in ([3, 7, 16], [-5, 1, 1, 1000, 2], [0, 999, 1000]):
            told = self.value(row)
            self.assertEqual(slow_terms(slow_value(row)), row)
            self.assertEqual(told[0], 0)
            self.assertEqual(told[1] * slow_value(row).denominator, told[2] * slow_value(row).numerator)
            self.assertGreater(told[2], 0)

    def test_most_terms(self):
        self.check([1] * 20)
        self.check([1000] * 20)
        self.check([-1000] + [1000] * 19)
        self.check(list(range(1, 21)))
        self.check([7] * 19)

    def test_greatest_and_least_term(self):
        self.assertEqual(self.value([1000]), [0, 1000, 1])
        self.assertEqual(self.value([-1000]), [0, -1000, 1])
        self.assertEqual(self.value([0, 1000]), [0, 1, 1000])

    def test_refused_by_bounds(self):
        self.refused([], -1)
        self.refused([1] * 21, -1)
        self.refused([1] * 30, -1)
        self.refused([1001], -1)
        self.refused([-1001], -1)
        self.refused([1, 1001], -1)
        self.refused([1, 2, 1001, 3], -1)
        self.refused([1, -1001], -1)

    def test_refused_by_a_term_behind_the_first(self):
        self.refused([1, 0], -3)
        self.refused([1, -1], -3)
        self.refused([0, 0], -3)
        self.refused([5, -1000], -3)
        self.refused([5, 2, 0, 3], -3)
        self.refused([5, 2, 3, 0], -3)
        self.refused([-1000, 2, -7, 1000], -3)
        self.refused([1] * 19 + [0], -3)

    def test_refusal_told_first(self):
        self.refused([1] * 20 + [0], -1)
        self.refused([0] * 30, -1)
        self.refused([1, 0, 1001], -1)
        self.refused([1, 1001, 0], -1)
        self.refused([-1001, 0], -1)
        self.refused([1, -1001, 2], -1)

    def test_far_numbers(self):
        self.refused([FAR], -1)
        self.refused([-FAR], -1)
        self.refused([1, FAR], -1)
        self.refused([1, -FAR], -1)
        self.refused([FAR, -FAR] * 15, -1)


if __name__ == "__main__":
    unittest.main()
