import unittest
from fractions import Fraction

from lightcurves.stars import variable_stars
from support import NO_MAGNITUDES, SIZES, OperationTest, scattered_images, scattered_numbers, table

# The magnitudes of a star in 64 images, by the scatter that they have.
STARS = {
    0: [7] * 64,
    3: [1] + [0] * 63,
    15: [0] * 60 + [1] * 4,
    45: [1, 0] * 15 + [0] * 34,
    46: [1] * 5 + [0] * 57 + [2] * 2,
    65535: [35] * 42 + [3] * 10 + [0] * 12,
    65536: [0, 32] * 32,
}


def scatter(values):
    mean = Fraction(sum(values), len(values))
    return int(256 * sum((value - mean) ** 2 for value in values) / len(values))


def expected(factor, images):
    scatters = [scatter(star) for star in zip(*images)]
    # Without the greater half, the greatest one left is the median.
    greater_half = len(scatters) // 2
    median = max(sorted(scatters)[:len(scatters) - greater_half])
    found = [star for star in range(len(scatters)) if scatters[star] > factor * max(1, median)]
    return [len(found)] + found


def images_of(stars):
    """The images of stars that are given as their magnitudes."""
    return [list(image) for image in zip(*stars)]


def with_factor_1(star_count, magnitudes):
    return variable_stars(star_count, 1, magnitudes)


class VariableTest(OperationTest):
    def check(self, factor, stars, found):
        """The stars are given as their magnitudes, or as one of the scatters of STARS."""
        stars = [STARS[star] if isinstance(star, int) else star for star in stars]
        self.assertEqual(variable_stars(len(stars), factor, table(images_of(stars))), [len(found)] + found)


class TheStarsAtHand(VariableTest):
    def test_each_has_its_scatter(self):
        for amount, star in STARS.items():
            self.assertEqual(len(star), 64)
            self.assertEqual(scatter(star), amount)


class OrdinaryTables(VariableTest):
    def test_no_variable_star(self):
        self.check(1, [[1, 2, 3], [4, 4, 4], [5, 7, 6]], [])
        self.check(3, [15, 15, 15], [])
        self.check(1, [15, 15, 15], [])
        self.assertEqual(variable_stars(3, 3, [1, 2, 3]), [0])

    def test_one_variable_star(self):
        self.check(2, [15, 15, 46], [2])
        self.check(2, [46, 15, 15], [0])
        self.check(2, [15, 46, 15], [1])
        self.check(5, [[10, 12, 11], [500, 900, 100], [-7, -8, -9]], [1])

    def test_several_variable_stars_in_increasing_order(self):
        self.check(2, [46, 3, 65536, 3, 45, 15, 15], [0, 2, 4])
        self.check(10, [65536, 46, 3, 3, 3], [0, 1])
        self.check(1, [65536, 65535, 46, 45, 15, 3, 0], [0, 1, 2])

    def test_both_signs(self):
        self.check(2, [[-50, 50], [-1, 1], [1, -1]], [0])
        self.check(2, [[-1, 1], [-1, -1], [-3, 50]], [2])

    def test_the_table_is_read_image_by_image(self):
        self.assertEqual(variable_stars(3, 1, [0, 500, 9, 1, 900, 9, 0, 700, 9]), [1, 1])
        self.assertEqual(variable_stars(2, 1, [1, 2, 1, 4, 1, 8]), [1, 1])

    def test_the_magnitudes_are_not_corrected(self):
        self.check(0, [[0, 10], [0, 10], [0, 10]], [0, 1, 2])

    def test_sizes_against_the_definition(self):
        for seed, (star_count, image_count) in enumerate(SIZES):
            quiet = scattered_images(star_count, image_count, 500, seed)
            swings = [abs(number) for number in scattered_numbers(star_count, 60, seed)]
            images = [[number * swing for number, swing in zip(image, swings)] for image in quiet]
            for factor in (0, 1, 2, 7, 65535):
                self.assertEqual(variable_stars(star_count, factor, table(images)), expected(factor, images))


class TheLimit(VariableTest):
    def test_a_scatter_just_at_the_limit_and_one_above(self):
        self.check(3, [15, 45, 15, 46, 15], [3])
        self.check(3, [46, 45, 15, 15, 3], [0])
        self.check(1, [45, 45, 45, 46, 0], [3])

    def test_a_median_of_0_counts_as_1(self):
        self.check(45, [0, 45, 0, 46, 0], [3])
        self.check(46, [0, 45, 0, 46, 0], [])
        self.check(2, [0, 3, 0], [1])
        self.check(3, [0, 3, 0], [])
        self.check(3, [0, 3], [])
        self.check(2, [3, 0], [0])

    def test_factor_0(self):
        self.check(0, [0, 3, 0, 65536, 15], [1, 3, 4])
        self.check(0, [15, 15], [0, 1])
        self.check(0, [0, 0], [])

    def test_greatest_factor(self):
        self.check(65535, [0, 65535, 65536], [])
        self.check(65535, [0, 65535, 0, 65536, 0], [3])
        self.check(65535, [0, 0, 0, 65536], [3])
        self.check(65534, [0, 0, 65535], [2])

    def test_limits_above_2_to_the_32(self):
        self.check(65535, [[0, 100], [0, 25599], [0, 25600], [0, 100], [0, 100]], [2])
        self.check(65535, [[0, 2000], [99999, -99999]], [])
        self.check(65535, [[2000, 0], [2000, 0], [99999, -99999]], [])
        self.check(65535, [[0, 700], [99999, -99999]], [1])
        self.check(1, [[-99999, 99999], [99999, -99999], [99998, -99999]], [])
        self.check(1, [[-99999, 99999], [99998, -99999], [99998, -99999]], [0])


class TheMedian(VariableTest):
    def test_an_odd_number_of_stars(self):
        self.check(2, [3, 15, 46], [2])
        self.check(2, [3, 3, 15], [2])
        self.check(2, [46, 46, 15], [])
        self.check(1, [46, 45, 15, 3, 0], [0, 1])

    def test_an_even_number_of_stars_takes_the_lower_middle(self):
        self.check(2, [3, 15], [1])
        self.check(2, [15, 3], [0])
        self.check(3, [15, 45, 46, 0], [2])
        self.check(1, [3, 45, 15, 46], [1, 3])

    def test_one_star_alone(self):
        for amount in STARS:
            self.check(1, [amount], [])
            self.check(65535, [amount], [])
            self.check(0, [amount], [0] if amount else [])
        self.check(0, [[5]], [])
        self.check(0, [[5, 6]], [0])

    def test_it_is_that_of_the_scatters_by_size(self):
        self.check(1, [65536, 3, 65535, 15, 46], [0, 2])


class FormOfTheAnswer(VariableTest):
    def test_the_count_and_then_as_many_numbers(self):
        for star_count, image_count in SIZES:
            given = variable_stars(star_count, 1, table(scattered_images(star_count, image_count)))
            self.assertIs(type(given), list)
            for number in given:
                self.assertIs(type(number), int)
            self.assertEqual(given[0], len(given) - 1)
            self.assertEqual(given[1:], sorted(set(given[1:])))

    def test_a_count_of_0_is_answered_alone(self):
        self.assertEqual(variable_stars(1, 1, [5]), [0])
        self.assertEqual(variable_stars(32, 0, [5] * 2048), [0])


class Edges(VariableTest):
    def test_most_stars(self):
        self.check(0, [3] * 32, list(range(32)))
        self.check(3, [15] * 16 + [46] * 16, list(range(16, 32)))
        self.check(3, [15] * 15 + [46] * 17, [])
        self.check(3, [46] * 15 + [15] * 16, list(range(15)))

    def test_the_last_star_alone(self):
        self.check(1, [0] * 31 + [65536], [31])


class Errors(VariableTest):
    def test_counts_outside_their_ranges(self):
        self.check_table_size_errors(with_factor_1)

    def test_factor_outside_its_range(self):
        for factor in (65536, 65537, 2 ** 31, 2 ** 32 - 1):
            self.assertEqual(variable_stars(1, factor, [5]), [-2])
            self.assertEqual(variable_stars(3, factor, [5, 6, 7, 8, 9, 10]), [-2])
            self.assertEqual(variable_stars(32, factor, [5] * 2048), [-2])

    def test_no_magnitudes(self):
        self.check_magnitude_errors(with_factor_1)

    def test_2_ahead_of_3(self):
        self.check_error_order(with_factor_1)
        for wrong in NO_MAGNITUDES:
            self.assertEqual(variable_stars(2, 65536, [wrong, 5]), [-2])

    def test_several_reasons_for_2(self):
        for factor in (0, 65535, 65536, 2 ** 32 - 1):
            self.assertEqual(variable_stars(0, factor, []), [-2])
            self.assertEqual(variable_stars(33, factor, [5] * 33), [-2])
            self.assertEqual(variable_stars(1, factor, [5] * 65), [-2])
            self.assertEqual(variable_stars(1, factor, []), [-2])


class Purity(VariableTest):
    def test_nothing_is_changed_or_kept(self):
        self.check_pure(variable_stars, 3, 0, table(scattered_images(3, 4)))
        self.check_pure(variable_stars, 1, 1, [2 ** 32 - 1])
        self.check_pure(variable_stars, 0, 1, [])
        self.check_pure(variable_stars, 2, 65536, [1, 2])
        self.check_pure(variable_stars, 2, 1, [100000, 1])


if __name__ == "__main__":
    unittest.main()
