import unittest

from lightcurves.stars import fold
from support import (NO_MAGNITUDES, SERIES_LENGTHS, WRONG_LENGTHS, WRONG_PERIODS, OperationTest,
                     phase_of, scattered_numbers, scattered_times, unsigned)

PERIODS = [1, 2, 3, 10, 1000, 65535, 65536, 65537, 1000003, 16777215, 16777216]


def answer(phases, magnitudes):
    return [0, len(phases)] + phases + [len(magnitudes)] + unsigned(magnitudes)


def expected(period, times, magnitudes):
    """Sorted by inserting one pair after the other, behind those with the same phase."""
    phases = []
    folded = []
    for time, magnitude in zip(times, magnitudes):
        phase = phase_of(period, time)
        place = sum(other <= phase for other in phases)
        phases.insert(place, phase)
        folded.insert(place, magnitude)
    return answer(phases, folded)


def with_period_10(times, magnitudes):
    return fold(10, times, magnitudes)


class FoldTest(OperationTest):
    def check(self, period, times, magnitudes, phases, folded):
        self.assertEqual(fold(period, times, unsigned(magnitudes)), answer(phases, folded))


class OrdinarySeries(FoldTest):
    def test_no_times(self):
        for period in PERIODS:
            self.assertEqual(fold(period, [], []), [0, 0, 0])

    def test_one_time(self):
        self.assertEqual(fold(4, [1], [7]), [0, 1, 16384, 1, 7])
        self.assertEqual(fold(4, [0], [7]), [0, 1, 0, 1, 7])
        self.assertEqual(fold(10, [23], [2 ** 32 - 7]), [0, 1, 19660, 1, 2 ** 32 - 7])

    def test_several_times_in_order(self):
        self.check(4, [0, 1, 2, 3], [5, 6, 7, 8], [0, 16384, 32768, 49152], [5, 6, 7, 8])
        self.check(8, [1, 3, 4], [-5, 6, -7], [8192, 24576, 32768], [-5, 6, -7])

    def test_times_that_are_not_in_order(self):
        self.check(4, [3, 0, 2, 1], [5, 6, 7, 8], [0, 16384, 32768, 49152], [6, 8, 7, 5])
        self.check(100, [99, 50, 1], [-1, 0, 1], [655, 32768, 64880], [1, 0, -1])

    def test_order_is_that_of_the_phases(self):
        self.check(4, [1, 2, 3, 4, 5], [10, 20, 30, 40, 50],
                   [0, 16384, 16384, 32768, 49152], [40, 10, 50, 20, 30])

    def test_the_answer_in_full(self):
        self.assertEqual(fold(4, [7, 1, 4], [3, 2 ** 32 - 1, 99999]),
                         [0, 3, 0, 16384, 49152, 3, 99999, 2 ** 32 - 1, 3])

    def test_a_rest_of_the_division_is_dropped(self):
        self.check(3, [0, 1, 2], [1, 2, 3], [0, 21845, 43690], [1, 2, 3])
        self.check(7, [1, 6], [1, 2], [9362, 56173], [1, 2])
        self.check(65537, [1, 65536], [1, 2], [0, 65535], [1, 2])

    def test_series_against_the_definition(self):
        for seed, length in enumerate(SERIES_LENGTHS):
            for period in PERIODS:
                for greatest in (20, 2 ** 32 - 1):
                    times = scattered_times(length, greatest, seed)
                    magnitudes = scattered_numbers(length, 99999, seed + 1)
                    self.assertEqual(fold(period, times, unsigned(magnitudes)), expected(period, times, magnitudes))


class EqualPhases(FoldTest):
    def test_equal_times_keep_their_order(self):
        self.check(10, [5, 5, 5], [3, 1, 2], [32768] * 3, [3, 1, 2])
        self.check(10, [5, 5, 5], [1, -2, 3], [32768] * 3, [1, -2, 3])
        self.check(10, [5, 0, 5, 0], [9, 8, -9, -8], [0, 0, 32768, 32768], [8, -8, 9, -9])

    def test_times_some_periods_apart_keep_their_order(self):
        self.check(10, [25, 5, 15], [1, 3, 2], [32768] * 3, [1, 3, 2])
        self.check(10, [5, 15, 25, 10], [4, 3, 2, 1], [0] + [32768] * 3, [1, 4, 3, 2])

    def test_unlike_times_with_the_same_phase_keep_their_order(self):
        self.check(2 ** 18, [3, 2, 1, 0], [5, 4, 9, 8], [0] * 4, [5, 4, 9, 8])
        self.check(16777216, [255, 0, 256, 128], [5, 9, 1, 7], [0, 0, 0, 1], [5, 9, 7, 1])

    def test_a_whole_series_with_the_same_phase(self):
        magnitudes = scattered_numbers(1024, 99999, 3)
        self.check(1, scattered_times(1024), magnitudes, [0] * 1024, magnitudes)


class TimesAndPeriods(FoldTest):
    def test_times_below_at_and_beyond_the_period(self):
        self.check(10, [9, 10, 11], [1, 2, 3], [0, 6553, 58982], [2, 3, 1])
        self.check(65536, [65535, 65536, 65537], [1, 2, 3], [0, 1, 65535], [2, 3, 1])
        self.check(16777216, [16777215, 16777216, 16777217, 16777216 + 256], [1, 2, 3, 4],
                   [0, 0, 1, 65535], [2, 3, 4, 1])

    def test_the_shortest_period(self):
        self.check(1, [0, 1, 2, 2 ** 32 - 1], [4, -3, 2, -1], [0] * 4, [4, -3, 2, -1])

    def test_the_longest_period(self):
        self.check(16777216, [0, 255, 256, 511, 512, 2 ** 23], [6, 5, 4, 3, 2, 1],
                   [0, 0, 1, 1, 2, 32768], [6, 5, 4, 3, 2, 1])
        self.check(16777215, [255, 256, 16777214], [1, 2, 3], [0, 1, 65535], [1, 2, 3])

    def test_the_greatest_times(self):
        self.check(10, [2 ** 32 - 1, 2 ** 31, 2 ** 31 - 1], [1, 2, 3], [32768, 45875, 52428], [1, 3, 2])
        self.check(16777216, [2 ** 32 - 1, 2 ** 32 - 16777216], [1, 2], [0, 65535], [2, 1])
        self.check(3, [2 ** 32 - 1, 2 ** 32 - 2], [1, 2], [0, 43690], [1, 2])


class Magnitudes(FoldTest):
    def test_smallest_and_greatest(self):
        self.check(4, [3, 2, 1, 0], [99999, -99999, 0, -1], [0, 16384, 32768, 49152], [-1, 0, -99999, 99999])

    def test_negative_ones_have_2_to_the_32_added(self):
        self.assertEqual(fold(2, [1, 0], [2 ** 32 - 99999, 2 ** 32 - 1]),
                         [0, 2, 0, 32768, 2, 2 ** 32 - 1, 2 ** 32 - 99999])


class FormOfTheAnswer(FoldTest):
    def test_each_list_has_its_length_ahead(self):
        for length in SERIES_LENGTHS:
            given = fold(1000, scattered_times(length), unsigned(scattered_numbers(length, 99999, 1)))
            self.check_form(given, 3 + 2 * length)
            self.assertEqual(given[1], length)
            self.assertEqual(given[2 + length], length)

    def test_most_times(self):
        times = list(range(1023, -1, -1))
        self.check(1024, times, times, list(range(0, 65536, 64)), list(range(1024)))


class Errors(FoldTest):
    def test_period_outside_its_range(self):
        for period in WRONG_PERIODS:
            self.assertEqual(fold(period, [], []), [-2])
            self.assertEqual(fold(period, [1], [5]), [-2])
            self.assertEqual(fold(period, [1, 2], [5, 2 ** 32 - 5]), [-2])
            self.assertEqual(fold(period, [9] * 1024, [5] * 1024), [-2])
            self.assertEqual(fold(period, [9] * 1025, [5] * 1025), [-2])

    def test_too_many_times_and_no_magnitudes(self):
        self.check_series_errors(with_period_10)

    def test_2_ahead_of_3(self):
        for wrong in NO_MAGNITUDES:
            for period in WRONG_PERIODS:
                self.assertEqual(fold(period, [1], [wrong]), [-2])
                self.assertEqual(fold(period, [1, 2], [5, wrong]), [-2])
            for length in WRONG_LENGTHS:
                self.assertEqual(fold(0, [9] * length, [wrong] * length), [-2])

    def test_any_time_is_allowed(self):
        self.check(1, [0, 100000, 2 ** 31, 2 ** 32 - 100000, 2 ** 32 - 1], [1, 2, 3, 4, 5], [0] * 5, [1, 2, 3, 4, 5])


class RequirementFour(FoldTest):
    def phases(self, period, times):
        """The phase of each time, in the order of the times."""
        return [fold(period, [time], [0])[2] for time in times]

    def test_phases_are_below_65536(self):
        for period in PERIODS:
            times = scattered_times(200) + [0, period - 1, period, 2 * period - 1, 2 ** 32 - 1]
            given = fold(period, times, [0] * len(times))
            for phase in given[2:2 + len(times)]:
                self.assertGreaterEqual(phase, 0)
                self.assertLess(phase, 65536)

    def test_adding_the_period_to_a_time(self):
        for period in PERIODS:
            times = scattered_times(100, 2 ** 32 - 1 - period) + [0, period - 1, period, 2 ** 32 - 1 - period]
            self.assertEqual(self.phases(period, [time + period for time in times]), self.phases(period, times))

    def test_adding_the_period_to_all_times(self):
        magnitudes = unsigned(scattered_numbers(300, 99999, 5))
        for period in PERIODS:
            times = scattered_times(300, 2 ** 32 - 1 - period)
            later = [time + period for time in times]
            self.assertEqual(fold(period, later, magnitudes), fold(period, times, magnitudes))


class Purity(FoldTest):
    def test_nothing_is_changed_or_kept(self):
        self.check_pure(fold, 10, [9, 5, 25, 0], unsigned([4, -3, 2, -1]))
        self.check_pure(fold, 16777216, scattered_times(100), unsigned(scattered_numbers(100, 99999, 1)))
        self.check_pure(fold, 1, [], [])
        self.check_pure(fold, 0, [3, 2], [1, 2])
        self.check_pure(fold, 10, [9] * 1025, [5] * 1025)
        self.check_pure(fold, 10, [3, 2], [1, 100000])


if __name__ == "__main__":
    unittest.main()
