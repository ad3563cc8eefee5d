import unittest
from fractions import Fraction
from math import floor

from lightcurves.stars import best_box
from support import (NO_MAGNITUDES, SERIES_LENGTHS, WRONG_LENGTHS, WRONG_PERIODS, OperationTest,
                     phase_of, scattered_numbers, scattered_times, unsigned)

NO_BOX = (0, 0, 0)
WRONG_BINS = [0, 65, 66, 256, 2 ** 31, 2 ** 32 - 1]


def bin_of(period, bins, time):
    return floor(Fraction(phase_of(period, time), 65536) * bins)


def depth(start, width, bins, measurements):
    """The depth of a box; the measurements are pairs of bin and magnitude."""
    inside = [magnitude for place, magnitude in measurements if (place - start) % bins < width]
    outside = [magnitude for place, magnitude in measurements if (place - start) % bins >= width]
    if not inside or not outside:
        return 0
    return sum(inside) * len(outside) - sum(outside) * len(inside)


def all_boxes(period, bins, max_width, times, magnitudes):
    """Each box in the order in which they are tried, with its depth."""
    measurements = [(bin_of(period, bins, time), magnitude) for time, magnitude in zip(times, magnitudes)]
    boxes = [(start, width) for width in range(1, max_width + 1) for start in range(bins)]
    return [(start, width, depth(start, width, bins, measurements)) for start, width in boxes]


def expected(boxes):
    greatest = max(box[2] for box in boxes)
    if greatest <= 0:
        return NO_BOX
    return [box for box in boxes if box[2] == greatest][0]


def in_4_bins(times, magnitudes):
    return best_box(10, 4, 2, times, magnitudes)


class BoxTest(OperationTest):
    def check(self, scalars, times, magnitudes, box):
        self.assertEqual(best_box(*scalars, times, unsigned(magnitudes)), [0] + list(box))

    def check_bins(self, max_width, magnitudes, box, bins=None):
        """One magnitude in each of the first bins."""
        bins = len(magnitudes) if bins is None else bins
        self.check((64 * bins, bins, max_width), [64 * place + 9 for place in range(len(magnitudes))], magnitudes, box)

    def check_definition(self, scalars, times, magnitudes):
        self.check(scalars, times, magnitudes, expected(all_boxes(*scalars, times, magnitudes)))


class NoBox(BoxTest):
    def test_no_times(self):
        for bins in (1, 2, 63, 64):
            for max_width in (1, 2, 64):
                self.check((10, bins, max_width), [], [], NO_BOX)

    def test_one_time(self):
        for magnitude in (0, 5, 99999, -1, -99999):
            for time in (0, 3, 9, 2 ** 32 - 1):
                for bins in (1, 2, 64):
                    self.check((10, bins, 64), [time], [magnitude], NO_BOX)

    def test_all_magnitudes_equal(self):
        for magnitude in (0, 5, 99999, -1, -99999):
            self.check_bins(8, [magnitude] * 8, NO_BOX)
            self.check((10, 7, 64), scattered_times(100), [magnitude] * 100, NO_BOX)

    def test_all_times_in_one_bin(self):
        self.check((100, 10, 10), [33, 35, 31], [5, -80, 9], NO_BOX)
        self.check((1, 64, 64), [1, 2, 3, 4], [5, -80, 9, 7], NO_BOX)

    def test_one_bin(self):
        self.check((10, 1, 1), [1, 5, 8], [5, -80, 9], NO_BOX)
        self.check((10, 1, 64), scattered_times(50), scattered_numbers(50, 99999, 1), NO_BOX)


class Dips(BoxTest):
    def test_a_dip_of_one_bin(self):
        self.check_bins(1, [0, 0, 9, 0], (2, 1, 27))
        self.check_bins(4, [0, 0, 9, 0], (2, 1, 27))
        self.check_bins(4, [7, 0, 0, 0], (0, 1, 21))
        self.check_bins(4, [0, 0, 0, 1], (3, 1, 3))
        self.check_bins(1, [10, 10, 10, 10, 18, 10, 10, 10], (4, 1, 56))

    def test_a_dip_of_several_bins(self):
        self.check_bins(8, [0, 0, 5, 5, 5, 0, 0, 0], (2, 3, 75))
        self.check_bins(3, [0, 0, 5, 5, 5, 0, 0, 0], (2, 3, 75))
        self.check_bins(8, [20, 60, 70, 60, 20, 20, 20, 20], (1, 3, 650))

    def test_a_dip_wider_than_max_width(self):
        self.check_bins(2, [0, 0, 5, 5, 5, 0, 0, 0], (2, 2, 50))
        self.check_bins(1, [0, 0, 5, 5, 5, 0, 0, 0], (2, 1, 25))
        self.check_bins(2, [0, 0, 5, 5, 6, 0, 0, 0], (3, 2, 56))

    def test_fainter_is_greater(self):
        self.check_bins(1, [9, 9, 0, 9], (0, 1, 9))
        self.check_bins(2, [9, 9, 0, 9], (0, 2, 18))
        self.check_bins(4, [9, 9, 0, 9], (3, 3, 27))

    def test_unlike_numbers_of_magnitudes_in_the_bins(self):
        self.check((4, 4, 4), [0, 1, 2, 2, 2, 3], [1, 0, 7, 9, 8, 2], (2, 1, 63))
        self.check((4, 4, 1), [0, 0, 0, 0, 1, 3], [4, 5, 4, 5, 9, 0], (1, 1, 27))

    def test_times_some_periods_apart_and_in_no_order(self):
        self.check((40, 4, 2), [85, 15, 45, 65, 5, 25, 35, 55, 75], [0, 0, 1, 8, 0, 7, 1, 1, 0], (2, 1, 99))
        self.check((40, 4, 2), [15, 85, 45, 65, 5, 75, 25, 35, 55], [0, 0, 1, 8, 0, 0, 7, 1, 1], (2, 1, 99))

    def test_both_signs(self):
        self.check_bins(4, [-5, 5, -5, -5], (1, 1, 30))
        self.check_bins(4, [-3, 0, 3, 0], (2, 1, 12))

    def test_magnitudes_that_are_all_negative(self):
        self.check_bins(4, [-9, -9, -1, -9], (2, 1, 24))
        self.check_bins(8, [-9, -2, -2, -9, -9, -9, -9, -9], (1, 2, 84))


class BoxesAcrossTheLastBin(BoxTest):
    def test_on_at_the_first_bin(self):
        self.check_bins(8, [5, 0, 0, 0, 0, 0, 0, 5], (7, 2, 60))
        self.check_bins(8, [5, 5, 0, 0, 0, 0, 0, 5], (7, 3, 75))
        self.check_bins(8, [5, 0, 0, 0, 0, 0, 5, 5], (6, 3, 75))
        self.check_bins(3, [5, 5, 0, 0, 0, 0, 5, 5], (6, 3, 60))
        self.check_bins(4, [5, 5, 0, 0, 0, 0, 5, 5], (6, 4, 80))

    def test_all_but_one_bin(self):
        self.check_bins(8, [9, 9, 9, 9, 0, 9, 9, 9], (5, 7, 63))
        self.check_bins(64, [9, 9, 9, 9, 0, 9, 9, 9], (5, 7, 63))

    def test_over_empty_bins(self):
        self.check((64, 64, 64), [63, 1, 20, 30, 40, 50], [5, 5, 0, 0, 0, 0], (63, 3, 40))
        self.check((64, 64, 2), [63, 1, 20, 30, 40, 50], [5, 5, 0, 0, 0, 0], (1, 1, 20))


class TheFirstOfSeveral(BoxTest):
    def test_starts_in_increasing_order(self):
        self.check_bins(1, [9, 0, 9, 0], (0, 1, 18))
        self.check_bins(2, [0, 9, 0, 9], (1, 1, 18))
        self.check_bins(2, [0, 0, 5, 5, 5, 0, 0, 0], (2, 2, 50))

    def test_the_start_0_is_ahead_of_a_box_across_the_last_bin(self):
        self.check_bins(2, [5, 5, 0, 0, 5, 5, 0, 0], (0, 2, 40))
        self.check_bins(2, [5, 5, 0, 0, 0, 0, 0, 5], (0, 2, 50))

    def test_widths_in_increasing_order(self):
        self.check_bins(4, [9, 0, 9, 0], (0, 1, 18))
        self.check_bins(8, [0, 0, 9, 0], (2, 1, 27), bins=8)

    def test_a_narrow_box_is_ahead_of_a_wide_one_with_a_smaller_start(self):
        # The sum is 0, so that a depth is the sum in the box times the number of all.
        self.check_bins(2, [4, 4, -16, 8, 0], (3, 1, 40), bins=8)
        self.check_bins(8, [4, 4, -16, 8, 0], (3, 7, 80), bins=8)

    def test_empty_bins_do_not_make_a_box_better(self):
        self.check((64, 64, 64), [10, 20, 30], [0, 5, 0], (20, 1, 10))
        self.check((64, 64, 64), [10, 20, 21, 30], [0, 5, 5, 0], (20, 2, 20))


class BinsAndWidths(BoxTest):
    def test_max_width_greater_than_bins(self):
        for max_width in (4, 5, 8, 63, 64):
            self.check_bins(max_width, [0, 0, 9, 0], (2, 1, 27))
            self.check_bins(max_width, [9, 9, 0, 9], (3, 3, 27))
            self.check_bins(max_width, [3, 3, 3, 3], NO_BOX)
        for bins in (2, 3, 5):
            times, magnitudes = scattered_times(30), scattered_numbers(30, 99999, 2)
            narrow = best_box(1000, bins, bins - 1, times, unsigned(magnitudes))
            for max_width in (bins, bins + 1, 2 * bins, 64):
                self.assertEqual(best_box(1000, bins, max_width, times, unsigned(magnitudes)), narrow)

    def test_two_bins(self):
        self.check((10, 2, 1), [1, 6], [5, 8], (1, 1, 3))
        self.check((10, 2, 64), [6, 1], [5, 8], (0, 1, 3))

    def test_bins_that_do_not_divide_65536(self):
        # The phase of 1 is 13107, a little less than a fifth, and so it lies in bin 0.
        self.check((5, 5, 1), [0, 1, 2, 3, 4], [0, 9, 0, 0, 0], (0, 1, 27))
        self.check((65536, 3, 1), [21845, 21846, 43690, 43691], [9, 0, 0, 0], (0, 1, 27))
        self.check((65536, 3, 1), [21845, 21846, 43690, 43691], [0, 9, 0, 0], (1, 1, 18))
        self.check((65536, 3, 1), [21845, 21846, 43690, 43691], [0, 0, 0, 9], (2, 1, 27))

    def test_most_bins(self):
        self.check_bins(64, [0] * 63 + [4], (63, 1, 252))
        self.check_bins(64, [0] * 10 + [4] * 50 + [0] * 4, (10, 50, 2800))
        self.check((16777216, 64, 64), [262144 * 5 - 1, 262144 * 5, 262144 * 6], [0, 8, 0], (5, 1, 16))

    def test_the_period_counts(self):
        self.check((4, 4, 4), [0, 5, 10, 15], [0, 9, 0, 0], (1, 1, 27))
        self.check((16, 4, 4), [0, 5, 10, 15], [0, 9, 0, 0], (1, 1, 27))
        self.check((2, 4, 4), [0, 5, 10, 15], [0, 9, 0, 0], (2, 1, 18))
        self.check((5, 4, 4), [0, 5, 10, 15], [0, 9, 0, 0], NO_BOX)


class OrdinarySeries(BoxTest):
    def test_short_series_against_the_definition(self):
        for length in range(9):
            for seed in range(20):
                times = scattered_times(length, 9, seed)
                for bound in (1, 5, 99999):
                    magnitudes = scattered_numbers(length, bound, seed + 1)
                    for scalars in ((8, 4, 2), (10, 5, 5), (10, 3, 9), (3, 6, 4), (1000, 8, 8)):
                        self.check_definition(scalars, times, magnitudes)

    def test_longer_series_against_the_definition(self):
        for seed, length in enumerate(SERIES_LENGTHS):
            times = scattered_times(length, 2 ** 32 - 1, seed)
            magnitudes = scattered_numbers(length, 99999, seed + 1)
            for scalars in ((16777216, 7, 3), (100000, 10, 12)):
                self.check_definition(scalars, times, magnitudes)
            if length <= 16:
                self.check_definition((65536, 64, 64), times, magnitudes)


class Edges(BoxTest):
    def test_depths_above_2_to_the_32(self):
        times = list(range(1024))
        magnitudes = [-99999] * 512 + [99999] * 512
        self.check((1024, 2, 1), times, magnitudes, (1, 1, 2 * 512 * 512 * 99999))
        self.check((1024, 64, 64), times, magnitudes, (32, 32, 52428275712))

    def test_most_times_with_most_bins_and_widths(self):
        times, magnitudes = scattered_times(1024), scattered_numbers(1024, 99999, 3)
        contents = [[] for _ in range(64)]
        for time, magnitude in zip(times, magnitudes):
            contents[bin_of(1000003, 64, time)].append(magnitude)
        boxes = []
        for width in range(1, 65):
            for start in range(64):
                inside = sum([contents[(start + place) % 64] for place in range(width)], [])
                boxes.append((start, width, sum(inside) * 1024 - sum(magnitudes) * len(inside)))
        self.check((1000003, 64, 64), times, magnitudes, expected(boxes))

    def test_the_edges_of_the_ranges_are_allowed(self):
        for scalars in ((1, 1, 1), (16777216, 64, 64), (1, 64, 1), (16777216, 1, 64)):
            self.check(scalars, [7], [5], NO_BOX)


class FormOfTheAnswer(BoxTest):
    def test_0_and_three_numbers(self):
        for length in SERIES_LENGTHS:
            given = best_box(1000, 9, 5, scattered_times(length), unsigned(scattered_numbers(length, 99999, 1)))
            self.check_form(given, 4)
            self.assertLess(given[1], 9)
            self.assertLessEqual(given[2], 5)


class Errors(BoxTest):
    def check_code(self, code, *scalars):
        for times, magnitudes in (([], []), ([1], [5]), ([1, 2, 9], [5, 2 ** 32 - 5, 0]), ([9] * 1024, [5] * 1024)):
            self.assertEqual(best_box(*scalars, times, magnitudes), [code])

    def test_period_outside_its_range(self):
        for period in WRONG_PERIODS:
            self.check_code(-2, period, 4, 2)

    def test_bins_outside_their_range(self):
        for bins in WRONG_BINS:
            self.check_code(-2, 10, bins, 2)
            self.check_code(-2, 10, bins, 64)

    def test_max_width_outside_its_range(self):
        for max_width in WRONG_BINS:
            self.check_code(-2, 10, 4, max_width)
            self.check_code(-2, 10, 64, max_width)

    def test_too_many_times_and_no_magnitudes(self):
        self.check_series_errors(in_4_bins)

    def test_2_ahead_of_3(self):
        for scalars in ((0, 4, 2), (16777217, 4, 2), (10, 0, 2), (10, 65, 2), (10, 4, 0), (10, 4, 65)):
            for wrong in NO_MAGNITUDES:
                self.assertEqual(best_box(*scalars, [1], [wrong]), [-2])
                self.assertEqual(best_box(*scalars, [1, 2], [5, wrong]), [-2])
            for length in WRONG_LENGTHS:
                self.assertEqual(best_box(*scalars, [9] * length, [100000] * length), [-2])


class RequirementSeven(BoxTest):
    def test_no_box_has_a_greater_depth(self):
        for seed, length in enumerate((0, 1, 2, 3, 5, 8, 20, 50)):
            times = scattered_times(length, 300, seed)
            for bound in (1, 99999):
                magnitudes = scattered_numbers(length, bound, seed)
                for max_width in (1, 3, 6, 20):
                    boxes = all_boxes(77, 6, max_width, times, magnitudes)
                    start, width, greatest = best_box(77, 6, max_width, times, unsigned(magnitudes))[1:]
                    self.assertLessEqual(max(box[2] for box in boxes), greatest)
                    if width > 0:
                        self.assertIn((start, width, greatest), boxes)


class Purity(BoxTest):
    def test_nothing_is_changed_or_kept(self):
        magnitudes = unsigned(scattered_numbers(30, 99999, 1))
        self.check_pure(best_box, 10, 5, 3, scattered_times(30), magnitudes)
        self.check_pure(best_box, 10, 5, 3, [], [])
        self.check_pure(best_box, 0, 5, 3, [3, 2], [1, 2])
        self.check_pure(best_box, 10, 5, 3, [9] * 1025, [5] * 1025)
        self.check_pure(best_box, 10, 5, 3, [3, 2], [1, 100000])


if __name__ == "__main__":
    unittest.main()
