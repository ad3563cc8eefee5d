import unittest
from fractions import Fraction
from math import floor

from lightcurves.stars import search_periods
from support import (NO_MAGNITUDES, SERIES_LENGTHS, WRONG_LENGTHS, WRONG_PERIODS, OperationTest,
                     phase_of, scattered_numbers, scattered_times, unsigned)

STRING_LENGTH = 0
BINNED_SCATTER = 1
ALL_BINS = [1, 2, 3, 7, 10, 32, 60, 63, 64]
WRONG_BINS = [0, 65, 66, 256, 2 ** 31, 2 ** 32 - 1]


def string_length(period, times, magnitudes):
    phases = [phase_of(period, time) for time in times]
    order = sorted(range(len(times)), key=lambda place: (phases[place], place))
    # Once around: each magnitude against the one ahead of it, the first one against the last.
    return sum(abs(magnitudes[order[k]] - magnitudes[order[k - 1]]) for k in range(len(order)))


def binned_scatter(period, bins, times, magnitudes):
    """The binned scatter by way of the squared distances from the mean of the bin."""
    contents = {}
    for time, magnitude in zip(times, magnitudes):
        contents.setdefault(floor(Fraction(phase_of(period, time), 65536) * bins), []).append(magnitude)
    result = 0
    for values in contents.values():
        mean = Fraction(sum(values), len(values))
        result += floor(sum((value - mean) ** 2 for value in values))
    return result


def expected(criterion, bins, first, step, trials, times, magnitudes):
    periods = [first + step * trial for trial in range(trials)]
    if criterion == STRING_LENGTH:
        values = [string_length(period, times, magnitudes) for period in periods]
    else:
        values = [binned_scatter(period, bins, times, magnitudes) for period in periods]
    best = 0
    for trial in range(trials):
        if values[trial] < values[best]:
            best = trial
    return [best] + values


def by_length(times, magnitudes):
    return search_periods(STRING_LENGTH, 4, 10, 1, 3, times, magnitudes)


def by_scatter(times, magnitudes):
    return search_periods(BINNED_SCATTER, 4, 10, 1, 3, times, magnitudes)


class SearchTest(OperationTest):
    def length(self, period, times, magnitudes):
        """The string length, from a search with one trial period."""
        best, value = search_periods(STRING_LENGTH, 1, period, 0, 1, times, unsigned(magnitudes))
        self.assertEqual(best, 0)
        return value

    def scatter(self, bins, period, times, magnitudes):
        """The binned scatter, from a search with one trial period."""
        best, value = search_periods(BINNED_SCATTER, bins, period, 0, 1, times, unsigned(magnitudes))
        self.assertEqual(best, 0)
        return value

    def check(self, scalars, times, magnitudes):
        self.assertEqual(search_periods(*scalars, times, unsigned(magnitudes)), expected(*scalars, times, magnitudes))


class StringLength(SearchTest):
    def test_two_times(self):
        self.assertEqual(self.length(4, [0, 1], [3, 8]), 10)
        self.assertEqual(self.length(4, [0, 1], [8, 3]), 10)
        self.assertEqual(self.length(4, [1, 0], [-3, 8]), 22)

    def test_the_last_difference_is_that_to_the_first(self):
        self.assertEqual(self.length(4, [0, 1, 2], [0, 10, 20]), 40)
        self.assertEqual(self.length(4, [0, 1, 2, 3], [1, 5, 2, 8]), 20)
        self.assertEqual(self.length(4, [0, 1, 2, 3], [7, 7, 7, 6]), 2)

    def test_order_is_that_of_the_folded_series(self):
        self.assertEqual(self.length(100, [0, 1, 2, 3], [0, 10, 0, 10]), 40)
        self.assertEqual(self.length(2, [0, 1, 2, 3], [0, 10, 0, 10]), 20)
        self.assertEqual(self.length(100, [3, 1, 0, 2], [10, 10, 0, 0]), 40)

    def test_equal_phases_keep_their_order(self):
        self.assertEqual(self.length(1, [3, 2, 1, 0], [0, 10, 0, 10]), 40)
        self.assertEqual(self.length(1, [3, 2, 1, 0], [0, 0, 10, 10]), 20)
        self.assertEqual(self.length(1, [0, 1, 2], [5, -5, 0]), 20)

    def test_both_signs(self):
        self.assertEqual(self.length(8, [0, 1, 2], [-1, 1, -1]), 4)
        self.assertEqual(self.length(8, [0, 1, 2], [-5, -8, -6]), 6)

    def test_the_number_of_bins_does_not_count(self):
        times, magnitudes = scattered_times(50), unsigned(scattered_numbers(50, 99999, 1))
        given = search_periods(STRING_LENGTH, 1, 900, 7, 9, times, magnitudes)
        for bins in ALL_BINS:
            self.assertEqual(search_periods(STRING_LENGTH, bins, 900, 7, 9, times, magnitudes), given)


class BinnedScatter(SearchTest):
    def test_one_magnitude_a_bin(self):
        self.assertEqual(self.scatter(4, 4, [0, 1, 2, 3], [5, -900, 70, 8]), 0)

    def test_several_magnitudes_in_a_bin(self):
        self.assertEqual(self.scatter(1, 4, [0, 1], [0, 2]), 2)
        self.assertEqual(self.scatter(2, 4, [0, 1, 2, 3], [0, 2, 10, 14]), 10)
        self.assertEqual(self.scatter(2, 4, [0, 2, 4, 6], [0, 10, 2, 14]), 10)
        self.assertEqual(self.scatter(1, 4, [0, 1, 2, 3], [1, 2, 3, 4]), 5)

    def test_a_rest_of_the_division_is_dropped_in_each_bin(self):
        self.assertEqual(self.scatter(1, 8, [0, 1, 2], [0, 0, 1]), 0)
        self.assertEqual(self.scatter(1, 8, [0, 1, 2], [0, 0, 2]), 2)
        self.assertEqual(self.scatter(2, 8, [0, 1, 2, 4, 5, 6], [0, 0, 2, 0, 2, 0]), 4)
        self.assertEqual(self.scatter(2, 8, [0, 1, 4, 5], [0, 1, 0, 1]), 0)
        self.assertEqual(self.scatter(1, 8, [0, 1, 4, 5], [0, 1, 0, 1]), 1)

    def test_empty_bins(self):
        self.assertEqual(self.scatter(64, 64, [5, 5, 40, 40], [0, 2, 10, 14]), 10)
        self.assertEqual(self.scatter(64, 1, [5, 6, 7], [1, 1, 1]), 0)
        self.assertEqual(self.scatter(64, 1, [5, 6, 7], [1, 1, 4]), 6)

    def test_both_signs(self):
        self.assertEqual(self.scatter(1, 8, [0, 1], [-1, 1]), 2)
        self.assertEqual(self.scatter(1, 8, [0, 1], [-7, -9]), 2)
        self.assertEqual(self.scatter(1, 8, [0, 1, 2], [-1, -1, 0]), 0)

    def test_bins_that_divide_65536(self):
        self.assertEqual(self.scatter(2, 65536, [0, 32767], [0, 10]), 50)
        self.assertEqual(self.scatter(2, 65536, [32767, 32768], [0, 10]), 0)
        self.assertEqual(self.scatter(64, 65536, [0, 1023], [0, 10]), 50)
        self.assertEqual(self.scatter(64, 65536, [1023, 1024], [0, 10]), 0)
        self.assertEqual(self.scatter(64, 65536, [64512, 65535], [0, 10]), 50)
        self.assertEqual(self.scatter(64, 65536, [65535, 0], [0, 10]), 0)

    def test_bins_that_do_not_divide_65536(self):
        self.assertEqual(self.scatter(3, 65536, [0, 21845], [0, 10]), 50)
        self.assertEqual(self.scatter(3, 65536, [21845, 21846], [0, 10]), 0)
        self.assertEqual(self.scatter(3, 65536, [43690, 43691], [0, 10]), 0)
        self.assertEqual(self.scatter(3, 65536, [43691, 65535], [0, 10]), 50)
        self.assertEqual(self.scatter(63, 65536, [1040, 1041], [0, 10]), 0)
        self.assertEqual(self.scatter(63, 65536, [1041, 2080], [0, 10]), 50)

    def test_the_bin_is_that_of_the_rounded_phase(self):
        # The phase of 1 is 13107, a little less than a fifth.
        self.assertEqual(self.scatter(5, 5, [0, 1], [0, 10]), 50)
        self.assertEqual(self.scatter(5, 5, [1, 2], [0, 10]), 0)

    def test_one_bin_holds_all(self):
        times, magnitudes = scattered_times(100), scattered_numbers(100, 99999, 2)
        mean = Fraction(sum(magnitudes), 100)
        for period in (1, 1000, 16777216):
            self.assertEqual(self.scatter(1, period, times, magnitudes),
                             floor(sum((magnitude - mean) ** 2 for magnitude in magnitudes)))


class OrdinarySeries(SearchTest):
    def test_no_times(self):
        for criterion in (STRING_LENGTH, BINNED_SCATTER):
            for trials in (1, 2, 64):
                for step in (0, 1, 65536):
                    self.assertEqual(search_periods(criterion, 5, 7, step, trials, [], []), [0] * (1 + trials))

    def test_one_time(self):
        for criterion in (STRING_LENGTH, BINNED_SCATTER):
            for magnitude in (0, 5, 99999, -1, -99999):
                given = search_periods(criterion, 5, 7, 3, 9, [123], unsigned([magnitude]))
                self.assertEqual(given, [0] * 10)

    def test_the_period_is_found(self):
        times = list(range(40))
        magnitudes = unsigned([[0, 30, 0, -30, 10][time % 5] for time in times])
        self.assertEqual(search_periods(STRING_LENGTH, 1, 3, 1, 4, times, magnitudes)[0], 2)
        self.assertEqual(search_periods(BINNED_SCATTER, 8, 3, 1, 4, times, magnitudes)[0], 2)
        self.assertEqual(search_periods(BINNED_SCATTER, 8, 3, 1, 4, times, magnitudes)[3], 0)

    def test_the_answer_in_full(self):
        self.assertEqual(search_periods(STRING_LENGTH, 1, 1, 1, 4, [0, 1, 2, 3], [0, 10, 0, 10]), [1, 40, 20, 20, 40])
        self.assertEqual(search_periods(BINNED_SCATTER, 2, 1, 1, 4, [0, 1, 2, 3], [0, 10, 0, 10]),
                         [1, 100, 0, 66, 100])

    def test_trial_periods(self):
        times, magnitudes = scattered_times(30, 1000), scattered_numbers(30, 99999, 4)
        for criterion in (STRING_LENGTH, BINNED_SCATTER):
            given = search_periods(criterion, 6, 50, 13, 20, times, unsigned(magnitudes))
            for trial in range(20):
                alone = search_periods(criterion, 6, 50 + 13 * trial, 0, 1, times, unsigned(magnitudes))
                self.assertEqual(alone, [0, given[1 + trial]])

    def test_series_against_the_definition(self):
        for seed, length in enumerate(SERIES_LENGTHS):
            magnitudes = scattered_numbers(length, 99999, seed + 1)
            for greatest in (50, 2 ** 32 - 1):
                times = scattered_times(length, greatest, seed)
                for first, step, trials in ((1, 1, 4), (16777216, 65536, 2), (1000, 777, 3), (65535, 1, 3)):
                    self.check((STRING_LENGTH, 1, first, step, trials), times, magnitudes)
                    self.check((BINNED_SCATTER, 1 + length % 64, first, step, trials), times, magnitudes)

    def test_numbers_of_bins_against_the_definition(self):
        times, magnitudes = scattered_times(300), scattered_numbers(300, 99999, 8)
        for bins in ALL_BINS:
            for first in (1, 30, 64, 65536, 16777216):
                self.check((BINNED_SCATTER, bins, first, 1, 3), times, magnitudes)


class TheBest(SearchTest):
    def test_the_first_of_several_smallest_values(self):
        self.assertEqual(search_periods(STRING_LENGTH, 1, 2, 1, 3, [0, 1, 2, 3], [0, 10, 0, 10]), [0, 20, 20, 40])
        self.assertEqual(search_periods(STRING_LENGTH, 1, 1, 1, 3, [0, 1, 2, 3], [0, 10, 0, 10]), [1, 40, 20, 20])
        self.assertEqual(search_periods(BINNED_SCATTER, 2, 2, 4, 3, [0, 1, 2, 3], [0, 10, 0, 10]), [0, 0, 66, 100])
        self.assertEqual(search_periods(BINNED_SCATTER, 4, 1, 1, 4, [0, 1, 2, 3], [0, 10, 0, 10]), [1, 100, 0, 50, 0])

    def test_the_last_trial_period_can_be_the_best(self):
        self.assertEqual(search_periods(STRING_LENGTH, 1, 1, 1, 2, [0, 1, 2, 3], [0, 10, 0, 10]), [1, 40, 20])

    def test_all_values_alike(self):
        self.assertEqual(search_periods(STRING_LENGTH, 1, 7, 1, 5, [0, 1, 2], [5, 5, 5]), [0] * 6)
        self.assertEqual(search_periods(BINNED_SCATTER, 1, 7, 1, 5, [0, 1, 2], [1, 2, 3]), [0] + [2] * 5)


class StepsAndTrials(SearchTest):
    def test_step_0(self):
        times, magnitudes = scattered_times(20, 100), unsigned(scattered_numbers(20, 99999, 1))
        for criterion in (STRING_LENGTH, BINNED_SCATTER):
            value = search_periods(criterion, 3, 10, 0, 1, times, magnitudes)[1]
            self.assertGreater(value, 0)
            for trials in (1, 2, 64):
                self.assertEqual(search_periods(criterion, 3, 10, 0, trials, times, magnitudes), [0] + [value] * trials)

    def test_greatest_step(self):
        # Only with the second trial period, 65537, the first and the third time have a phase of their own.
        times = [0, 40000, 65537, 65537 + 40000]
        self.assertEqual(search_periods(STRING_LENGTH, 1, 1, 65536, 3, times, [5, 9, 5, 9]), [1, 16, 8, 16])
        self.assertEqual(search_periods(BINNED_SCATTER, 2, 1, 65536, 3, times, [5, 9, 5, 9]), [1, 16, 0, 16])

    def test_trial_periods_beyond_the_range_of_first(self):
        self.assertEqual(search_periods(BINNED_SCATTER, 64, 16777216, 1, 2, [0, 16777216], [0, 10]), [1, 50, 0])
        times = [0, 16777216 + 65536, 16777216 + 63 * 65536]
        given = search_periods(BINNED_SCATTER, 64, 16777216, 65536, 64, times, [0, 10, 20])
        self.assertEqual(given, expected(BINNED_SCATTER, 64, 16777216, 65536, 64, times, [0, 10, 20]))
        self.assertEqual((given[2], given[64]), (50, 200))

    def test_most_trials(self):
        times, magnitudes = scattered_times(12, 3000), scattered_numbers(12, 99999, 6)
        for scalars in ((STRING_LENGTH, 1, 1, 1, 64), (BINNED_SCATTER, 3, 1, 65536, 64)):
            self.check(scalars, times, magnitudes)


class FormOfTheAnswer(SearchTest):
    def test_one_number_a_trial_period(self):
        times, magnitudes = scattered_times(9), unsigned(scattered_numbers(9, 99999, 1))
        for criterion in (STRING_LENGTH, BINNED_SCATTER):
            for trials in (1, 2, 63, 64):
                given = search_periods(criterion, 3, 10, 1, trials, times, magnitudes)
                self.assertIs(type(given), list)
                self.assertEqual(len(given), 1 + trials)
                for number in given:
                    self.assertIs(type(number), int)
                    self.assertGreaterEqual(number, 0)
                self.assertLess(given[0], trials)


class Edges(SearchTest):
    def test_the_greatest_string_length(self):
        times = list(range(1024))
        self.assertEqual(self.length(1, times, [99999, -99999] * 512), 1024 * 199998)
        self.assertEqual(self.length(16777216, [256 * time for time in times], [-99999, 99999] * 512), 204797952)

    def test_the_greatest_binned_scatter(self):
        times = list(range(1024))
        for bins in (1, 64):
            self.assertEqual(self.scatter(bins, 1, times, [99999, -99999] * 512), 1024 * 99999 ** 2)
        self.assertEqual(self.scatter(64, 1024, times, [99999, -99999] * 512), 10239795201024)
        self.assertEqual(self.scatter(1, 1, times[1:], [99999, -99999] * 511 + [99999]),
                         floor(Fraction(4 * 511 * 512, 1023) * 99999 ** 2))

    def test_values_about_2_to_the_32_are_answered_whole(self):
        self.assertEqual(self.scatter(1, 1, [0, 1, 2, 3], [2 ** 15, -2 ** 15] * 2), 2 ** 32)
        self.assertEqual(self.scatter(1, 1, [0, 1], [46341, -46341]), 2 * 46341 ** 2)
        self.assertEqual(self.scatter(1, 1, [0, 1], [99999, -99999]), 2 * 99999 ** 2)

    def test_most_times_with_most_trials(self):
        times, magnitudes = scattered_times(1024), scattered_numbers(1024, 99999, 3)
        for criterion in (STRING_LENGTH, BINNED_SCATTER):
            given = search_periods(criterion, 64, 16777216, 65536, 64, times, unsigned(magnitudes))
            self.assertEqual(given[0], given[1:].index(min(given[1:])))
            last = expected(criterion, 64, 16777216 + 63 * 65536, 0, 1, times, magnitudes)
            self.assertEqual(given[64], last[1])


class Errors(SearchTest):
    def check_code(self, code, *scalars):
        for times, magnitudes in (([], []), ([1], [5]), ([1, 2, 9], [5, 2 ** 32 - 5, 0]), ([9] * 1024, [5] * 1024)):
            self.assertEqual(search_periods(*scalars, times, magnitudes), [code])

    def test_criterion_outside_its_range(self):
        for criterion in (2, 3, 2 ** 31, 2 ** 32 - 1):
            self.check_code(-2, criterion, 4, 10, 1, 3)

    def test_bins_outside_their_range(self):
        for bins in WRONG_BINS:
            self.check_code(-2, STRING_LENGTH, bins, 10, 1, 3)
            self.check_code(-2, BINNED_SCATTER, bins, 10, 1, 3)

    def test_first_outside_its_range(self):
        for first in WRONG_PERIODS:
            self.check_code(-2, STRING_LENGTH, 4, first, 1, 3)
            self.check_code(-2, BINNED_SCATTER, 4, first, 0, 1)

    def test_step_outside_its_range(self):
        for step in (65537, 65538, 2 ** 31, 2 ** 32 - 1):
            self.check_code(-2, STRING_LENGTH, 4, 10, step, 3)
            self.check_code(-2, BINNED_SCATTER, 4, 10, step, 1)

    def test_trials_outside_their_range(self):
        for trials in WRONG_BINS:
            self.check_code(-2, STRING_LENGTH, 4, 10, 1, trials)
            self.check_code(-2, BINNED_SCATTER, 4, 10, 0, trials)

    def test_too_many_times_and_no_magnitudes(self):
        self.check_series_errors(by_length)
        self.check_series_errors(by_scatter)

    def test_2_ahead_of_3(self):
        for scalars in ((2, 4, 10, 1, 3), (0, 0, 10, 1, 3), (0, 65, 10, 1, 3), (0, 4, 0, 1, 3), (1, 4, 16777217, 1, 3),
                        (1, 4, 10, 65537, 3), (1, 4, 10, 1, 0), (1, 4, 10, 1, 65)):
            for wrong in NO_MAGNITUDES:
                self.assertEqual(search_periods(*scalars, [1], [wrong]), [-2])
                self.assertEqual(search_periods(*scalars, [1, 2], [5, wrong]), [-2])
            for length in WRONG_LENGTHS:
                self.assertEqual(search_periods(*scalars, [9] * length, [100000] * length), [-2])

    def test_the_edges_of_the_ranges_are_allowed(self):
        for scalars in ((0, 1, 1, 0, 1), (1, 64, 16777216, 65536, 64), (1, 1, 16777216, 0, 64), (0, 64, 1, 65536, 1)):
            self.assertEqual(search_periods(*scalars, [7], [5]), [0] * (1 + scalars[4]))


class RequirementFive(SearchTest):
    def test_at_least_twice_the_difference_of_any_two(self):
        for seed, length in enumerate(SERIES_LENGTHS[1:]):
            magnitudes = scattered_numbers(length, 99999, seed)
            for period in (1, 7, 1000, 16777216):
                value = self.length(period, scattered_times(length, 2 ** 32 - 1, seed), magnitudes)
                self.assertGreaterEqual(value, 2 * (max(magnitudes) - min(magnitudes)))

    def test_0_exactly_if_all_magnitudes_are_equal(self):
        for seed, length in enumerate(SERIES_LENGTHS):
            times = scattered_times(length, 2 ** 32 - 1, seed)
            for period in (1, 7, 16777216):
                for magnitude in (-99999, -1, 0, 99998):
                    self.assertEqual(self.length(period, times, [magnitude] * length), 0)
                    if length > 1:
                        equal = [magnitude] * (length - 1)
                        self.assertEqual(self.length(period, times, equal + [magnitude + 1]), 2)
                        self.assertEqual(self.length(period, times, [magnitude + 1] + equal), 2)


class RequirementSix(SearchTest):
    def test_no_smaller_value_and_no_earlier_one_like_it(self):
        for seed, length in enumerate(SERIES_LENGTHS):
            for bound in (1, 99999):
                times = scattered_times(length, 5000, seed)
                magnitudes = unsigned(scattered_numbers(length, bound, seed))
                for criterion in (STRING_LENGTH, BINNED_SCATTER):
                    given = search_periods(criterion, 9, 5, 3, 30, times, magnitudes)
                    best, values = given[0], given[1:]
                    for value in values:
                        self.assertGreaterEqual(value, values[best])
                    for value in values[:best]:
                        self.assertGreater(value, values[best])


class Purity(SearchTest):
    def test_nothing_is_changed_or_kept(self):
        magnitudes = unsigned(scattered_numbers(30, 99999, 1))
        for criterion in (STRING_LENGTH, BINNED_SCATTER):
            self.check_pure(search_periods, criterion, 5, 10, 1, 8, scattered_times(30), magnitudes)
            self.check_pure(search_periods, criterion, 5, 10, 1, 8, [], [])
            self.check_pure(search_periods, criterion, 0, 10, 1, 8, [3, 2], [1, 2])
            self.check_pure(search_periods, criterion, 5, 10, 1, 8, [9] * 1025, [5] * 1025)
            self.check_pure(search_periods, criterion, 5, 10, 1, 8, [3, 2], [1, 100000])


if __name__ == "__main__":
    unittest.main()
