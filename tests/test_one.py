import unittest

from helper import FAR, ONE, ask, is_square, slow_pairs

MOST = 1000


def next_pair(pair, least, n):
    """The pair behind one: as the words have it, the least make all others."""
    return (least[0] * pair[0] + n * least[1] * pair[1], least[0] * pair[1] + least[1] * pair[0])


def powers_x(u, j):
    """The x of the j-th pair, if u is that of the first one."""
    before = 1
    at = u
    for _ in range(j - 1):
        before, at = at, 2 * u * at - before
    return at


def root_of_power(x, j):
    """The greatest u whose j-th pair has no x above the one told."""
    low = 1
    high = 2
    while powers_x(high, j) <= x:
        high *= 2
    while high - low > 1:
        middle = (low + high) // 2
        if powers_x(middle, j) <= x:
            low = middle
        else:
            high = middle
    return low


def lesser_pair(n, x):
    """The x of a lesser pair that the pair of x is made of; None if there's none."""
    j = 2
    while powers_x(2, j) <= x:
        u = root_of_power(x, j)
        if u > 1 and powers_x(u, j) == x and (u * u - 1) % n == 0 and is_square((u * u - 1) // n):
            return u
        j += 1
    return None


class OneTest(unittest.TestCase):

    def told(self, n, k, x, y):
        self.assertEqual(ask([ONE, n, k]), [0, x, y], (n, k))

    def refused(self, n, k, refusal):
        self.assertEqual(ask([ONE, n, k]), [refusal], (n, k))

    def pair(self, n, k):
        found = ask([ONE, n, k])
        self.assertEqual((len(found), found[0]), (3, 0), (n, k))
        return (found[1], found[2])

    def check(self, n):
        """That all five are right: the first can't be a lesser one's power, the others are its own."""
        least = self.pair(n, 1)
        wanted = least
        for k in range(1, 6):
            x, y = self.pair(n, k)
            self.assertTrue(x > 0 and y > 0, (n, k))
            self.assertEqual(x * x - n * y * y, 1, (n, k))
            self.assertEqual((x, y), wanted, (n, k))
            wanted = next_pair(wanted, least, n)
        self.assertIsNone(lesser_pair(n, least[0]), n)

    def test_by_hand(self):
        self.told(2, 1, 3, 2)
        self.told(2, 2, 17, 12)
        self.told(2, 3, 99, 70)
        self.told(2, 4, 577, 408)
        self.told(2, 5, 3363, 2378)
        self.told(3, 1, 2, 1)
        self.told(3, 5, 362, 209)
        self.told(5, 1, 9, 4)
        self.told(999, 1, 102688615, 3248924)
        self.told(MOST, 1, 39480499, 1248483)

    def test_great_least_pairs(self):
        self.told(61, 1, 1766319049, 226153980)
        self.told(109, 1, 158070671986249, 15140424455100)
        self.told(991, 1, 379516400906811930638014896080, 12055735790331359447442538767)
        self.told(661, 1, 16421658242965910275055840472270471049, 638728478116949861246791167518480580)

    def test_ring_of_even_length(self):
        self.told(7, 1, 8, 3)
        self.told(7, 2, 127, 48)
        self.told(14, 1, 15, 4)
        self.told(19, 1, 170, 39)

    def test_ring_of_odd_length(self):
        self.told(10, 1, 19, 6)
        self.told(13, 1, 649, 180)
        self.told(13, 2, 842401, 233640)
        self.told(41, 1, 2049, 320)

    def test_second_way(self):
        for n in range(2, MOST + 1):
            if not is_square(n):
                for k, pair in enumerate(slow_pairs(n, 1, 300)[:5]):
                    self.assertEqual(self.pair(n, k + 1), pair, n)

    def test_second_way_all_five(self):
        for n in (2, 3, 5, 6, 7, 8, 12, 15):
            pairs = slow_pairs(n, 1, 420000 if n in (5, 7) else 80000)
            self.assertGreaterEqual(len(pairs), 5, n)
            self.assertEqual([self.pair(n, k) for k in range(1, 6)], pairs[:5], n)

    def test_every_number(self):
        for n in range(1, MOST + 1):
            if is_square(n):
                self.refused(n, 1, -3)
                self.refused(n, 5, -3)
            else:
                self.check(n)

    def test_the_check_finds_what_is_made_of_lesser(self):
        self.assertEqual(lesser_pair(2, 17), 3)
        self.assertEqual(lesser_pair(2, 3363), 3)
        self.assertEqual(lesser_pair(991, self.pair(991, 5)[0]), self.pair(991, 1)[0])

    def test_refused(self):
        self.refused(0, 1, -1)
        self.refused(MOST + 1, 1, -1)
        self.refused(2, 0, -1)
        self.refused(2, 6, -1)
        self.refused(1, 1, -3)
        self.refused(4, 3, -3)
        self.refused(961, 5, -3)

    def test_refusal_told_first(self):
        self.refused(0, 0, -1)
        self.refused(4, 0, -1)
        self.refused(4, 6, -1)
        self.refused(1, 0, -1)
        self.refused(961, 6, -1)
        self.refused(1024, 1, -1)
        self.refused(MOST + 1, 6, -1)

    def test_far_numbers(self):
        self.refused(FAR, 1, -1)
        self.refused(2, FAR, -1)
        self.refused(4, FAR, -1)
        self.refused(FAR, FAR, -1)
        self.refused(94906265 * 94906265, 1, -1)


if __name__ == "__main__":
    unittest.main()
