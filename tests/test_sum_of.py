"""Point 2: sum_of adds up 1 to n, each to the power k, or refuses by -1."""

import contextlib
import inspect
import io
import math
import unittest
from fractions import Fraction

from powersums.desk import number, sum_of
from watching import AT_FIRST, kept_values, with_little_room

POWERS = range(0, 17)
LAST_POWER = 16
LAST = 1000000
LEAST = -2147483648
GREATEST = 2147483647

KNOWN = {
    (0, 0): 0,
    (0, 7): 7,
    (1, 100): 5050,
    (2, 10): 385,
    (3, 10): 3025,
    (10, 3): 60074,
    (16, 2): 65537,
    (2, 16): 1496,
    (4, 100): 2050333330,
    (10, 1000): 91409924241424243424241924242500,
    (0, LAST): 1000000,
    (1, LAST): 500000500000,
    (2, LAST): 333333833333500000,
    (3, LAST): 250000500000250000000000,
    (16, LAST): int(
        "58824029413098039215681607843137272235294117599392"
        "156862831764705882260807843137301568627450973300000"
    ),
}

GOOD_POWERS = (0, 1, 2, 15, 16)
GOOD_ENDS = (0, 1, 2, 16, 17, 999999, LAST)
WRONG_POWERS = (-1, 17, LEAST, GREATEST, -2, -16, -17, 18, 32, 120, LAST, LEAST + 1, GREATEST - 1)
WRONG_ENDS = (-1, 1000001, LEAST, GREATEST, -2, -LAST, 1000002, 2000000, LEAST + 1, GREATEST - 1)

REFUSED = (
    [(k, n) for k in WRONG_POWERS for n in GOOD_ENDS]
    + [(k, n) for k in POWERS for n in WRONG_ENDS]
    + [(k, n) for k in WRONG_POWERS for n in WRONG_ENDS]
)


def added_up(k, n):
    total = 0
    for base in range(1, n + 1):
        total += base ** k
    return total


def good_inputs():
    return [(k, n) for k in POWERS for n in GOOD_ENDS]


def every_answer():
    return [sum_of(k, n) for k, n in good_inputs()]


class Ordinary(unittest.TestCase):
    def test_known_sums(self):
        for (k, n), total in KNOWN.items():
            with self.subTest(k=k, n=n):
                self.assertEqual(sum_of(k, n), [0, total])

    def test_small_ones_added_up_one_by_one(self):
        for k in POWERS:
            for n in range(0, 121):
                with self.subTest(k=k, n=n):
                    self.assertEqual(sum_of(k, n), [0, added_up(k, n)])

    def test_power_0_counts_each_as_1(self):
        for n in list(range(0, 200)) + [65535, 65536, 999999, LAST]:
            with self.subTest(n=n):
                self.assertEqual(sum_of(0, n), [0, n])

    def test_k_first_n_second_and_both_may_be_named(self):
        self.assertEqual(list(inspect.signature(sum_of).parameters), ["k", "n"])
        self.assertEqual(sum_of(k=2, n=10), [0, 385])
        self.assertEqual(sum_of(n=10, k=2), [0, 385])
        self.assertEqual(sum_of(2, 17), [0, 1785])
        self.assertEqual(sum_of(17, 2), [-1])


class GreatEnds(unittest.TestCase):
    def test_each_step_adds_one_power(self):
        starts = (100, 999, 9999, 46340, 65535, 500000, 999990)
        for k in POWERS:
            for start in starts:
                for n in range(start + 1, start + 11):
                    with self.subTest(k=k, n=n):
                        self.assertEqual(sum_of(k, n)[1] - sum_of(k, n - 1)[1], n ** k)

    def test_as_bernoullis_numbers_tell_it(self):
        for k in POWERS:
            for n in (1000, 31623, 999999, LAST):
                total = Fraction(0)
                for j in range(k + 1):
                    first, above, below = number(j)
                    total += (-1) ** j * math.comb(k + 1, j) * Fraction(above, below) * n ** (k + 1 - j)
                with self.subTest(k=k, n=n):
                    self.assertEqual(sum_of(k, n), [0, total / (k + 1)])


class Edges(unittest.TestCase):
    def test_up_to_0_is_0(self):
        for k in POWERS:
            with self.subTest(k=k):
                self.assertEqual(sum_of(k, 0), [0, 0])

    def test_up_to_1_is_1(self):
        for k in POWERS:
            with self.subTest(k=k):
                self.assertEqual(sum_of(k, 1), [0, 1])

    def test_the_last_power_and_the_last_end_added_up_one_by_one(self):
        for k in (0, 1, LAST_POWER):
            with self.subTest(k=k):
                self.assertEqual(sum_of(k, LAST), [0, added_up(k, LAST)])

    def test_every_good_input_is_answered(self):
        for k, n in good_inputs():
            with self.subTest(k=k, n=n):
                answer = sum_of(k, n)
                self.assertEqual(len(answer), 2)
                self.assertEqual(answer[0], 0)

    def test_all_others_are_refused(self):
        for k, n in REFUSED:
            with self.subTest(k=k, n=n):
                self.assertEqual(sum_of(k, n), [-1])


class Kinds(unittest.TestCase):
    def test_lists_of_int_and_never_bool(self):
        for k, n in good_inputs() + REFUSED:
            with self.subTest(k=k, n=n):
                answer = sum_of(k, n)
                self.assertIs(type(answer), list)
                for value in answer:
                    self.assertIs(type(value), int)


class NothingKept(unittest.TestCase):
    def test_the_same_again_with_other_calls_between(self):
        upward = every_answer()
        refused = [sum_of(k, n) for k, n in REFUSED]
        numbers = [number(n) for n in (-1, 0, 1, 16, 120, 121)]
        downward = [sum_of(k, n) for k, n in reversed(good_inputs())]
        self.assertEqual(upward, downward[::-1])
        self.assertEqual(refused, [sum_of(k, n) for k, n in REFUSED])
        self.assertEqual(numbers, [number(n) for n in (-1, 0, 1, 16, 120, 121)])

    def test_a_changed_answer_changes_no_later_one(self):
        for k, n in [(k, n) for k in GOOD_POWERS for n in GOOD_ENDS] + [(-1, 5), (17, 5), (5, -1), (5, 1000001)]:
            with self.subTest(k=k, n=n):
                answer = sum_of(k, n)
                before = list(answer)
                answer[0] = 77
                answer.append(78)
                self.assertEqual(sum_of(k, n), before)
                answer.clear()
                self.assertEqual(sum_of(k, n), before)

    def test_a_changed_answer_changes_no_other_one(self):
        before = every_answer()
        for k, n in good_inputs():
            sum_of(k, n).clear()
        sum_of(-1, 0).clear()
        self.assertEqual(every_answer(), before)
        self.assertEqual(sum_of(0, -1), [-1])
        self.assertEqual(number(-1), [-1])

    def test_nothing_is_laid_by_in_the_module(self):
        every_answer()
        sum_of(-1, -1)
        self.assertEqual(kept_values(), AT_FIRST)


class Manners(unittest.TestCase):
    def test_prints_nothing(self):
        shown = io.StringIO()
        with contextlib.redirect_stdout(shown), contextlib.redirect_stderr(shown):
            sum_of(LAST_POWER, LAST)
            sum_of(LAST_POWER + 1, LAST + 1)
        self.assertEqual(shown.getvalue(), "")

    def test_goes_by_loops(self):
        self.assertEqual(with_little_room(sum_of, LAST_POWER, LAST), [0, KNOWN[LAST_POWER, LAST]])


if __name__ == "__main__":
    unittest.main()
