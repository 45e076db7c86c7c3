"""Point 1: number tells Bernoulli's number Bn, or refuses by -1."""

import contextlib
import inspect
import io
import math
import unittest
from fractions import Fraction

from powersums.desk import number
from watching import AT_FIRST, kept_values, with_little_room

FIRST = 0
LAST = 120
LEAST = -2147483648
GREATEST = 2147483647

KNOWN = {
    0: (1, 1),
    1: (-1, 2),
    2: (1, 6),
    3: (0, 1),
    4: (-1, 30),
    5: (0, 1),
    6: (1, 42),
    8: (-1, 30),
    10: (5, 66),
    12: (-691, 2730),
    14: (7, 6),
    16: (-3617, 510),
    18: (43867, 798),
    20: (-174611, 330),
    22: (854513, 138),
    24: (-236364091, 2730),
    26: (8553103, 6),
    28: (-23749461029, 870),
    30: (8615841276005, 14322),
    50: (495057205241079648212477525, 66),
    100: (
        -94598037819122125295227433069493721872702841533066936133385696204311395415197247711,
        33330,
    ),
    120: (
        -int(
            "515074865350791090618439968578499832740951703532626752130"
            "92869167199297474922985358811329367077682677803282070131"
        ),
        2328255930,
    ),
}

REFUSED = (-1, 121, LEAST, GREATEST, -2, -120, -121, 122, 240, 1000, 1000000, LEAST + 1, GREATEST - 1)


def every_answer():
    return [number(n) for n in range(FIRST, LAST + 1)]


class Ordinary(unittest.TestCase):
    def test_known_numbers(self):
        for n, (above, below) in KNOWN.items():
            with self.subTest(n=n):
                self.assertEqual(number(n), [0, above, below])

    def test_odd_places_from_three_on_are_0_by_1(self):
        for n in range(3, LAST + 1, 2):
            with self.subTest(n=n):
                self.assertEqual(number(n), [0, 0, 1])

    def test_n_may_be_named(self):
        self.assertEqual(list(inspect.signature(number).parameters), ["n"])
        self.assertEqual(number(n=2), [0, 1, 6])


class EveryPlace(unittest.TestCase):
    def test_the_words_own_rule(self):
        numbers = [Fraction(above, below) for first, above, below in every_answer()]
        self.assertEqual(numbers[0], 1)
        for n in range(1, LAST + 1):
            with self.subTest(n=n):
                self.assertEqual(sum(numbers[k] * math.comb(n + 1, k) for k in range(n + 1)), 0)

    def test_lowest_terms_and_what_is_below_above_0(self):
        for n, (first, above, below) in enumerate(every_answer()):
            with self.subTest(n=n):
                self.assertEqual(first, 0)
                self.assertGreater(below, 0)
                self.assertEqual(math.gcd(above, below), 1)


class Edges(unittest.TestCase):
    def test_first_and_last_are_answered(self):
        self.assertEqual(number(FIRST), [0, 1, 1])
        self.assertEqual(number(LAST), [0, *KNOWN[LAST]])

    def test_all_others_are_refused(self):
        for n in REFUSED:
            with self.subTest(n=n):
                self.assertEqual(number(n), [-1])


class Kinds(unittest.TestCase):
    def test_lists_of_int_and_never_bool(self):
        for n in list(range(FIRST, LAST + 1)) + list(REFUSED):
            with self.subTest(n=n):
                answer = number(n)
                self.assertIs(type(answer), list)
                for value in answer:
                    self.assertIs(type(value), int)


class NothingKept(unittest.TestCase):
    def test_the_same_again_with_other_calls_between(self):
        upward = every_answer()
        refused = [number(n) for n in REFUSED]
        downward = [number(n) for n in range(LAST, FIRST - 1, -1)]
        self.assertEqual(upward, downward[::-1])
        self.assertEqual(refused, [number(n) for n in REFUSED])

    def test_a_changed_answer_changes_no_later_one(self):
        for n in (0, 1, 2, 3, 12, 119, 120, -1, 121, LEAST, GREATEST):
            with self.subTest(n=n):
                answer = number(n)
                before = list(answer)
                answer[0] = 77
                answer.append(78)
                self.assertEqual(number(n), before)
                answer.clear()
                self.assertEqual(number(n), before)

    def test_a_changed_answer_changes_no_other_place(self):
        before = every_answer()
        for n in range(FIRST, LAST + 1):
            number(n).clear()
        number(-1).clear()
        self.assertEqual(every_answer(), before)
        self.assertEqual(number(121), [-1])

    def test_nothing_is_laid_by_in_the_module(self):
        every_answer()
        number(-1)
        self.assertEqual(kept_values(), AT_FIRST)


class Manners(unittest.TestCase):
    def test_prints_nothing(self):
        shown = io.StringIO()
        with contextlib.redirect_stdout(shown), contextlib.redirect_stderr(shown):
            number(LAST)
            number(LAST + 1)
        self.assertEqual(shown.getvalue(), "")

    def test_goes_by_loops(self):
        self.assertEqual(with_little_room(number, LAST), [0, *KNOWN[LAST]])


if __name__ == "__main__":
    unittest.main()
