import builtins
import sys
import unittest
from unittest import mock

from cogterms import fractions
from cogterms.fractions import answers
from helper import BETWEEN, FAR, MINUS_ONE, NEAR, NEAR_ROOT, ONE, RING, ROOT, TERMS, VALUE
from helper import ask, joined, split, value_call

MIXED = [
    [TERMS, 355, 113],
    value_call([3, 7, 16]),
    [ROOT, 7],
    [RING, 1, -2, 5],
    [NEAR, 314159, 100000, 300],
    [NEAR_ROOT, 2, 300],
    [BETWEEN, 1, 3, 1, 2],
    [ONE, 61, 2],
    [MINUS_ONE, 13],
    [TERMS, -7, 3],
    value_call([]),
    value_call([2]),
    [ROOT, 9],
    [RING, 0, 1, 4],
    [NEAR, 1, 2, 1],
    [NEAR_ROOT, 9, 7],
    [BETWEEN, 2, 4, 1, 2],
    [ONE, 9, 1],
    [MINUS_ONE, 9],
    [MINUS_ONE, 3],
    [TERMS, FAR, 0],
    value_call([-FAR, FAR] * 15),
    [ROOT, FAR],
    [RING, -FAR, FAR, FAR],
    [NEAR, -FAR, FAR, FAR],
    [NEAR_ROOT, FAR, FAR],
    [BETWEEN, -FAR, FAR, -FAR, FAR],
    [ONE, FAR, FAR],
    [MINUS_ONE, FAR],
    value_call([0, 1, 2, 3, 4]),
    [ROOT, 0],
    value_call([1, 0]),
    [TERMS, 0, 1],
    [BETWEEN, 8, 7, 6, 5],
    [ONE, 7, 5],
    [NEAR_ROOT, 8, 0],
    [MINUS_ONE, 0],
    [BETWEEN, 0, 1, -5, 1],
]


class KeptList(list):
    """A list that lets nothing in it be changed."""

    def changed(self, *anything):
        raise AssertionError("what was handed in is changed")

    append = extend = insert = remove = pop = clear = sort = reverse = changed
    __setitem__ = __delitem__ = __iadd__ = __imul__ = changed


class LayoutTest(unittest.TestCase):

    def test_one_of_each(self):
        calls = joined(MIXED[:9])
        self.assertEqual(answers(calls), [
            4, 3, 3, 7, 16,
            3, 0, 355, 113,
            6, 4, 2, 1, 1, 1, 4,
            5, 2, -2, 2, 1, 1,
            3, 0, 355, 113,
            3, 0, 239, 169,
            3, 0, 2, 5,
            3, 0, 6239765965720528801, 798920165762330040,
            3, 0, 18, 5])

    def test_refusals_stand_alone(self):
        calls = [[TERMS, 1, 0], value_call([]), value_call([1, 0]), [ROOT, 4], [RING, 0, 0, 2], [NEAR, 1, 1, 0]]
        self.assertEqual(answers(joined(calls)), [1, -1, 1, -1, 1, -3, 1, -3, 1, -1, 1, -1])
        calls = [[NEAR_ROOT, 0, 1], [BETWEEN, 0, 0, 1, 1], [BETWEEN, 1, 1, 1, 1], [ONE, 2, 0], [ONE, 4, 1],
                 [MINUS_ONE, 0], [MINUS_ONE, 4], [MINUS_ONE, 3]]
        self.assertEqual(answers(joined(calls)), [1, -1, 1, -1, 1, -3, 1, -1, 1, -3, 1, -1, 1, -3, 1, -6])

    def test_first_term_below_nothing_is_no_refusal(self):
        self.assertEqual(answers([TERMS, -3, 1]), [2, 1, -3])
        self.assertEqual(answers([VALUE, 1, -3]), [3, 0, -3, 1])

    def test_row_told_with_its_length(self):
        self.assertEqual(answers([1, 2, 0, 2, 0, 1, 2]), [3, 0, 1, 2, 3, 2, 0, 2])
        self.assertEqual(answers([1, 0, 1, 1, 4]), [1, -1, 3, 0, 4, 1])
        self.assertEqual(answers([1, 30] + [2] * 30 + [2, 2]), [1, -1, 3, 1, 1, 2])

    def test_only_whole_numbers(self):
        for number in answers(joined(MIXED)):
            self.assertIs(type(number), int)

    def test_a_plain_list(self):
        self.assertIs(type(answers([ROOT, 2])), list)


class ManyCallsTest(unittest.TestCase):

    def check(self, calls):
        self.assertEqual(split(answers(joined(calls))), [ask(call) for call in calls])

    def test_any_order(self):
        for k in range(len(MIXED)):
            self.check(MIXED[k:] + MIXED[:k])
        self.check(MIXED[::-1])

    def test_each_behind_each(self):
        for first in MIXED:
            for second in MIXED:
                self.check([first, second])

    def test_forty(self):
        for calls in (MIXED, MIXED[::-1], MIXED[5:9] * 10):
            self.check((calls + calls)[:40])

    def test_the_same_forty_times(self):
        for call in MIXED:
            told = split(answers(joined([call] * 40)))
            self.assertEqual(told, [ask(call)] * 40)

    def test_longest_list(self):
        calls = joined([value_call([k + 1] * 30) for k in range(40)])
        self.assertEqual(len(calls), 1280)
        self.assertEqual(answers(calls), [1, -1] * 40)

    def test_longest_rings(self):
        self.check([[ROOT, 999541], [RING, 1, 97, 991]] * 20)

    def test_longest_walks(self):
        self.check([[NEAR_ROOT, 999999, 300], [ONE, 991, 5], [BETWEEN, 317811, 514229, 514229, 832040]] * 13)


class NothingKeptTest(unittest.TestCase):

    def test_handed_in_stays(self):
        calls = joined(MIXED)
        before = list(calls)
        answers(calls)
        self.assertEqual(calls, before)

    def test_handed_in_stays_meanwhile(self):
        calls = joined(MIXED)
        self.assertEqual(answers(KeptList(calls)), answers(calls))

    def test_what_is_given_back_is_new(self):
        calls = [ROOT, 7]
        first = answers(calls)
        self.assertIsNot(first, calls)
        wanted = list(first)
        first.append(5)
        first[0] = 8
        self.assertEqual(answers(calls), wanted)

    def test_second_time_gives_the_same(self):
        calls = joined(MIXED)
        first = answers(calls)
        self.assertEqual(answers(calls), first)
        for call in MIXED:
            answers(list(call))
            self.assertEqual(answers(calls), first)

    def test_module_stays(self):
        before = shown(fractions)
        answers(joined(MIXED))
        self.assertEqual(shown(fractions), before)

    def test_prints_reads_and_imports_nothing(self):
        calls = joined(MIXED)
        wanted = answers(calls)
        refuse = mock.Mock(side_effect=AssertionError("reached outside"))
        with mock.patch.object(builtins, "print", refuse), mock.patch.object(builtins, "open", refuse), \
                mock.patch.object(builtins, "input", refuse), mock.patch.object(builtins, "__import__", refuse), \
                mock.patch.object(sys, "stdout", None), mock.patch.object(sys, "stderr", None), \
                mock.patch.object(sys, "stdin", None):
            told = answers(calls)
        self.assertEqual(told, wanted)

    def test_few_calls_within_one_another(self):
        calls = joined([
            [ROOT, 999541], [RING, 1, 97, 991], [NEAR, 1, 999983, 300], value_call([9] * 20), [TERMS, 514229, 832040],
            [NEAR_ROOT, 999999, 300], [BETWEEN, 317811, 514229, 514229, 832040], [ONE, 991, 5], [MINUS_ONE, 541]])
        wanted = answers(calls)
        kept = sys.getrecursionlimit()
        try:
            sys.setrecursionlimit(depth() + 15)
            told = answers(calls)
        finally:
            sys.setrecursionlimit(kept)
        self.assertEqual(told, wanted)


def shown(module):
    """What a module keeps, as a text for each name."""
    return {name: repr(kept) for name, kept in vars(module).items() if name != "__builtins__"}


def depth():
    """How many calls the caller stands within."""
    frame = sys._getframe(1)
    found = 0
    while frame is not None:
        found += 1
        frame = frame.f_back
    return found


if __name__ == "__main__":
    unittest.main()
