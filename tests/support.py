"""What several tests need: tables and series in the form in which they are handed in, and checks."""

import copy
import unittest
from fractions import Fraction
from math import floor


def unsigned(values):
    """The values as they are handed in and answered: negative ones with 2 ** 32 added."""
    return [value + 2 ** 32 if value < 0 else value for value in values]


def signed(values):
    return [value - 2 ** 32 if value >= 2 ** 31 else value for value in values]


def table(images):
    """A list of images, each a list of signed magnitudes, as one list to hand in."""
    return unsigned([magnitude for image in images for magnitude in image])


def scattered_times(count, greatest=2 ** 32 - 1, seed=1):
    """Times from 0 to greatest in no order, the same ones at each run."""
    times = []
    state = seed
    for _ in range(count):
        state = (state * 6364136223846793005 + 1442695040888963407) % 2 ** 64
        times.append((state >> 32) % (greatest + 1))
    return times


def scattered_numbers(count, bound, seed):
    """Numbers from -bound to bound, far apart from one another, the same ones at each run."""
    return [time - bound for time in scattered_times(count, 2 * bound, seed)]


def scattered_images(star_count, image_count, bound=99999, seed=1):
    numbers = scattered_numbers(star_count * image_count, bound, seed)
    return [numbers[image * star_count:][:star_count] for image in range(image_count)]


def phase_of(period, time):
    """The phase as the part of the period that has gone by, in 65536ths."""
    periods = Fraction(time, period)
    return floor((periods - floor(periods)) * 65536)


# One table size of each kind: the edges of both counts, odd and even numbers of each.
SIZES = [(1, 1), (1, 2), (1, 3), (1, 64), (2, 1), (3, 1), (2, 2), (3, 4), (4, 3), (5, 5), (6, 7),
         (31, 63), (32, 1), (32, 2), (32, 64)]

# Tables with too many stars, too many images or both, none longer than 2200.
WRONG_SIZES = [(33, 1), (33, 64), (33, 65), (34, 2), (64, 1), (64, 34),
               (1, 65), (1, 66), (1, 2200), (2, 65), (31, 65), (32, 65), (32, 68)]

# Numbers of times: none, the edges, and some between.
SERIES_LENGTHS = [0, 1, 2, 3, 4, 7, 16, 100, 1023, 1024]

# Numbers of times that are too many, none above 1100.
WRONG_LENGTHS = [1025, 1026, 1099, 1100]

WRONG_PERIODS = [0, 16777217, 16777218, 2 ** 25, 2 ** 31, 2 ** 32 - 1]

# Numbers that stand for no magnitude, the nearest ones to the range among them.
NO_MAGNITUDES = unsigned([100000, -100000, 100001, -100001, 2 ** 31 - 1, -2 ** 31])


class OperationTest(unittest.TestCase):
    """Ways to check that fit each operation."""

    def check_pure(self, operation, *arguments):
        """Calls twice and checks that nothing handed in changes and nothing is kept."""
        before = copy.deepcopy(arguments)
        first = operation(*arguments)
        self.assertEqual(arguments, before)
        kept = list(first)
        first.append(1)
        first[0] = 7
        self.assertEqual(operation(*arguments), kept)
        self.assertEqual(arguments, before)

    def check_form(self, answer, length):
        """An answer that is no error: a list of that length, 0 first, plain whole numbers."""
        self.assertIs(type(answer), list)
        self.assertEqual(len(answer), length)
        self.assertEqual(answer[0], 0)
        for number in answer:
            self.assertIs(type(number), int)
            self.assertGreaterEqual(number, 0)

    def check_table_size_errors(self, operation):
        """The -2 for counts outside their ranges, of an operation called with star_count and magnitudes."""
        for star_count in (0, 1, 2, 32, 33, 34, 64, 2200, 2 ** 31, 2 ** 32 - 1):
            self.assertEqual(operation(star_count, []), [-2])
        for star_count, image_count in WRONG_SIZES:
            self.assertEqual(operation(star_count, [5] * (star_count * image_count)), [-2])

    def check_magnitude_errors(self, operation):
        """The -3 of an operation called with star_count and magnitudes."""
        for wrong in NO_MAGNITUDES:
            self.assertEqual(operation(1, [wrong]), [-3])
            for place in range(6):
                magnitudes = table([[1, -2], [3, 99999], [-99999, 6]])
                magnitudes[place] = wrong
                self.assertEqual(operation(2, magnitudes), [-3])
            self.assertEqual(operation(32, [0] * (32 * 64 - 1) + [wrong]), [-3])

    def check_error_order(self, operation):
        """-2 ahead of -3, for an operation called with star_count and magnitudes."""
        for wrong in NO_MAGNITUDES:
            for star_count, image_count in WRONG_SIZES:
                self.assertEqual(operation(star_count, [wrong] * (star_count * image_count)), [-2])

    def check_series_errors(self, operation):
        """The -2 and the -3 of an operation called with times and magnitudes."""
        for length in WRONG_LENGTHS:
            self.assertEqual(operation([9] * length, [5] * length), [-2])
            self.assertEqual(operation(list(range(length)), [5] * length), [-2])
        for wrong in NO_MAGNITUDES:
            self.assertEqual(operation([9], [wrong]), [-3])
            self.assertEqual(operation([9] * 1024, [0] * 1023 + [wrong]), [-3])
            for place in range(4):
                magnitudes = unsigned([1, -2, 99999, -99999])
                magnitudes[place] = wrong
                self.assertEqual(operation([3, 0, 2 ** 32 - 1, 3], magnitudes), [-3])
            for length in WRONG_LENGTHS:
                self.assertEqual(operation([9] * length, [wrong] * length), [-2])
                self.assertEqual(operation([9] * length, [5] * (length - 1) + [wrong]), [-2])
