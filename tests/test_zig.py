"""Point 3: zig counts the orders of n things that are zigzags, or refuses by -1."""

import contextlib
import inspect
import io
import itertools
import math
import unittest
from fractions import Fraction

from powersums.desk import number, sum_of, zig
from watching import AT_FIRST, kept_values, with_little_room

FIRST = 0
LAST = 70
LEAST = -2147483648
GREATEST = 2147483647

KNOWN = (
    1, 1, 1, 2, 5, 16, 61, 272, 1385, 7936, 50521, 353792, 2702765, 22368256, 199360981, 1903757312,
    19391512145, 209865342976, 2404879675441, 29088885112832, 370371188237525,
)

REFUSED = (-1, 71, LEAST, GREATEST, -2, -70, -71, 72, 120, 121, 140, 1000, 1000000, LEAST + 1, GREATEST - 1)


def is_zigzag(order):
    for place in range(1, len(order)):
        goes_up = order[place] > order[place - 1]
        if goes_up != (place % 2 == 1):
            return False
    return True


def gone_through(n):
    return sum(1 for order in itertools.permutations(range(n)) if is_zigzag(order))


def split_at_the_greatest(last):
    """The counts for 0 to last things, by where the greatest stands.

    Of two things or more it stands behind an odd number of others; what's ahead of it and what's behind it
    are zigzags each, of whichever things are chosen to be ahead.
    """
    counts = [1, 1]
    for n in range(2, last + 1):
        counts.append(sum(
            math.comb(n - 1, ahead) * counts[ahead] * counts[n - 1 - ahead] for ahead in range(1, n, 2)
        ))
    return counts


def secant_and_tangent(last):
    """The counts for 0 to last things as the series of (1 + sin x) / cos x tells them (Andre)."""
    above = [Fraction((-1) ** (k // 2), math.factorial(k)) if k % 2 else Fraction(k == 0) for k in range(last + 1)]
    below = [Fraction(0) if k % 2 else Fraction((-1) ** (k // 2), math.factorial(k)) for k in range(last + 1)]
    series = []
    for n in range(last + 1):
        series.append(above[n] - sum(below[k] * series[n - k] for k in range(1, n + 1)))
    return [part * math.factorial(n) for n, part in enumerate(series)]


def every_answer():
    return [zig(n) for n in range(FIRST, LAST + 1)]


class Ordinary(unittest.TestCase):
    def test_all_orders_gone_through_one_by_one(self):
        for n, known in enumerate((1, 1, 1, 2, 5, 16, 61, 272, 1385)):
            with self.subTest(n=n):
                self.assertEqual(gone_through(n), known)
                self.assertEqual(zig(n), [0, known])

    def test_known_counts(self):
        for n, known in enumerate(KNOWN):
            with self.subTest(n=n):
                self.assertEqual(zig(n), [0, known])

    def test_n_may_be_named(self):
        self.assertEqual(list(inspect.signature(zig).parameters), ["n"])
        self.assertEqual(zig(n=4), [0, 5])


class EveryCount(unittest.TestCase):
    def test_split_at_the_greatest(self):
        for n, count in enumerate(split_at_the_greatest(LAST)):
            with self.subTest(n=n):
                self.assertEqual(zig(n), [0, count])

    def test_secant_and_tangent(self):
        for n, count in enumerate(secant_and_tangent(LAST)):
            with self.subTest(n=n):
                self.assertEqual(zig(n), [0, count])

    def test_odd_ones_as_bernoullis_numbers_tell_them(self):
        for n in range(1, LAST + 1, 2):
            first, above, below = number(n + 1)
            count = 2 ** (n + 1) * (2 ** (n + 1) - 1) * Fraction(abs(above), below) / (n + 1)
            with self.subTest(n=n):
                self.assertEqual(zig(n), [0, count])


class Edges(unittest.TestCase):
    def test_of_no_things_and_of_one_there_is_one(self):
        self.assertEqual(zig(0), [0, 1])
        self.assertEqual(zig(1), [0, 1])

    def test_the_last(self):
        self.assertEqual(zig(LAST), [0, split_at_the_greatest(LAST)[LAST]])
        self.assertEqual(zig(LAST - 1), [0, split_at_the_greatest(LAST)[LAST - 1]])

    def test_all_others_are_refused(self):
        for n in REFUSED:
            with self.subTest(n=n):
                self.assertEqual(zig(n), [-1])


class Kinds(unittest.TestCase):
    def test_lists_of_int_and_never_bool(self):
        for n in list(range(FIRST, LAST + 1)) + list(REFUSED):
            with self.subTest(n=n):
                answer = zig(n)
                self.assertIs(type(answer), list)
                for value in answer:
                    self.assertIs(type(value), int)


class NothingKept(unittest.TestCase):
    def test_the_same_again_with_other_calls_between(self):
        for n in list(range(FIRST, LAST + 1)) + list(REFUSED):
            with self.subTest(n=n):
                before = (zig(n), number(n), sum_of(3, n))
                for other in (-1, 0, 1, 16, 69, 70, 71, 120, 121):
                    zig(other)
                    number(other)
                    sum_of(other, 70)
                    sum_of(16, other)
                self.assertEqual((zig(n), number(n), sum_of(3, n)), before)

    def test_the_same_upward_and_downward(self):
        upward = every_answer()
        downward = [zig(n) for n in range(LAST, FIRST - 1, -1)]
        self.assertEqual(upward, downward[::-1])

    def test_a_changed_answer_changes_no_later_one(self):
        for n in list(range(FIRST, LAST + 1)) + list(REFUSED):
            with self.subTest(n=n):
                answer = zig(n)
                before = list(answer)
                answer[0] = 77
                answer.append(78)
                self.assertEqual(zig(n), before)
                answer.clear()
                self.assertEqual(zig(n), before)

    def test_a_changed_answer_changes_no_other_one(self):
        before = every_answer()
        for n in range(FIRST, LAST + 1):
            zig(n).clear()
        zig(-1).clear()
        number(-1).append(79)
        sum_of(-1, -1).append(80)
        self.assertEqual(every_answer(), before)
        self.assertEqual(zig(71), [-1])
        self.assertEqual(number(121), [-1])
        self.assertEqual(sum_of(17, 0), [-1])

    def test_nothing_is_laid_by_in_the_module(self):
        every_answer()
        zig(-1)
        self.assertEqual(kept_values(), AT_FIRST)


class Manners(unittest.TestCase):
    def test_prints_nothing(self):
        shown = io.StringIO()
        with contextlib.redirect_stdout(shown), contextlib.redirect_stderr(shown):
            zig(LAST)
            zig(LAST + 1)
        self.assertEqual(shown.getvalue(), "")

    def test_goes_by_loops(self):
        self.assertEqual(with_little_room(zig, LAST), [0, split_at_the_greatest(LAST)[LAST]])


if __name__ == "__main__":
    unittest.main()
