import unittest
from fractions import Fraction
from math import floor

from lightcurves.stars import differential_magnitudes
from support import NO_MAGNITUDES, SIZES, OperationTest, scattered_images, scattered_numbers, table, unsigned


def expected(star, weights, images):
    others = [other for other in range(len(weights)) if other != star]
    total = sum(weights[other] for other in others)
    if total == 0:
        return [0] * len(images)
    means = [Fraction(sum(weights[other] * image[other] for other in others), total) for image in images]
    return [image[star] - floor(mean + Fraction(1, 2)) for image, mean in zip(images, means)]


def first_star(star_count, magnitudes):
    """The call for star 0 with equal weights; without magnitudes the weights are empty, too."""
    weights = [1] * star_count if magnitudes else []
    return differential_magnitudes(star_count, 0, weights, magnitudes)


class DifferentialTest(OperationTest):
    def check(self, star, weights, images, differences):
        self.assertEqual(differential_magnitudes(len(weights), star, weights, table(images)),
                         [0] + unsigned(differences))


class OrdinaryTables(DifferentialTest):
    def test_two_stars(self):
        self.check(0, [1, 1], [[50, 20]], [30])
        self.check(1, [1, 1], [[50, 20]], [-30])
        self.check(0, [3, 7], [[50, 20], [-5, -9], [0, 4]], [30, 4, -4])

    def test_several_stars_one_image(self):
        self.check(1, [1, 5, 3], [[10, 100, 30]], [75])
        self.check(0, [1, 1, 1, 1], [[0, 10, 20, 30]], [-20])

    def test_several_images_both_signs(self):
        self.check(2, [1, 3, 9], [[-100, 100, 0], [40, -40, 7], [1, 1, -1]], [-50, 27, -2])

    def test_the_table_is_read_image_by_image(self):
        self.check(0, [1, 1], [[1, 20], [3, 40], [5, 60]], [-19, -37, -55])
        self.check(2, [1, 1, 1], [[1, 3, 5], [20, 40, 60]], [3, 30])

    def test_sizes_against_the_definition(self):
        for seed, (star_count, image_count) in enumerate(SIZES):
            for bound, greatest in ((2, 1), (1000, 3), (99999, 65535)):
                images = scattered_images(star_count, image_count, bound, seed)
                weights = [abs(number) for number in scattered_numbers(star_count, greatest, seed)]
                for star in sorted({0, star_count // 2, star_count - 1}):
                    self.check(star, weights, images, expected(star, weights, images))


class Rounding(DifferentialTest):
    def test_ties_round_up_on_both_sides_of_zero(self):
        for low, rounded in ((-3, -2), (-2, -1), (-1, 0), (0, 1), (1, 2), (2, 3), (99998, 99999), (-99999, -99998)):
            self.check(0, [0, 1, 1], [[0, low, low + 1]], [-rounded])
            self.check(2, [8, 8, 8], [[low + 1, low, 5]], [5 - rounded])

    def test_ties_of_weights(self):
        self.check(0, [0, 3, 1], [[0, 0, 2]], [-1])
        self.check(0, [0, 3, 1], [[0, 0, -2]], [0])
        self.check(0, [0, 5, 1], [[0, 0, 3], [0, 0, -3], [0, 0, 9], [0, 0, -9]], [-1, 0, -2, 1])

    def test_what_is_no_tie_goes_to_the_nearest(self):
        self.check(0, [0, 2, 1], [[0, 0, 1], [0, 0, 2], [0, 0, -1], [0, 0, -2]], [0, -1, 0, 1])
        self.check(0, [0, 32768, 32767], [[0, 0, 1], [0, 1, 0], [0, 0, -1], [0, -1, 0]], [0, -1, 0, 1])

    def test_the_mean_is_rounded_and_not_the_difference(self):
        self.check(0, [0, 1, 1], [[10, 0, 1], [-10, 0, 1], [-10, 0, -1]], [9, -11, -10])


class Weights(DifferentialTest):
    def test_the_own_weight_does_not_count(self):
        for own in (0, 1, 1000, 65535):
            self.check(0, [own, 1, 1], [[90000, 10, 20], [-90000, -10, -20]], [89985, -89985])
            self.check(1, [2, own], [[4, -6]], [-10])

    def test_weights_of_the_others_that_add_up_to_0(self):
        for own in (0, 1, 65535):
            self.check(1, [0, own, 0], [[10, 20, 30], [-1, -2, -3]], [0, 0])
            self.check(0, [own, 0], [[99999, -99999]], [0])

    def test_one_star_alone(self):
        for own in (0, 1, 65535):
            self.check(0, [own], [[99999]], [0])
            self.check(0, [own], [[1], [-2], [3]], [0, 0, 0])

    def test_a_weight_of_0_leaves_a_star_out(self):
        self.check(0, [1, 0, 1], [[5, 99999, 3]], [2])
        self.check(2, [0, 65535, 0], [[99999, 7, 9]], [2])

    def test_greatest_weights(self):
        self.check(0, [65535, 65535, 65535], [[0, 10, 20]], [-15])
        self.check(0, [0, 65535, 1], [[0, 0, 99999], [0, 0, 32767], [0, 0, 32768]], [-2, 0, -1])
        self.check(31, [65535] * 32, [[99999] * 32, [-99999] * 31 + [99999]], [0, 199998])


class FormOfTheAnswer(DifferentialTest):
    def test_one_number_an_image(self):
        for star_count, image_count in SIZES:
            magnitudes = table(scattered_images(star_count, image_count))
            given = differential_magnitudes(star_count, star_count - 1, [9] * star_count, magnitudes)
            self.check_form(given, 1 + image_count)

    def test_negative_answers_have_2_to_the_32_added(self):
        self.assertEqual(differential_magnitudes(2, 0, [1, 1], [3, 4, 4, 3]), [0, 2 ** 32 - 1, 1])


class Edges(DifferentialTest):
    def test_answers_beyond_the_range_of_magnitudes(self):
        self.check(0, [1, 1], [[99999, -99999], [-99999, 99999]], [199998, -199998])

    def test_most_stars_and_images(self):
        images = [[100 * star + image for star in range(32)] for image in range(64)]
        self.check(0, [1] + [0] * 30 + [2], images, [-3100] * 64)
        self.check(31, [1] + [0] * 30 + [2], images, [3100] * 64)


class Errors(DifferentialTest):
    def check_code(self, code, star_count, star, weights, magnitudes):
        self.assertEqual(differential_magnitudes(star_count, star, weights, magnitudes), [code])

    def test_counts_outside_their_ranges(self):
        self.check_table_size_errors(first_star)

    def test_no_images_with_weights(self):
        for star_count in (1, 2, 32, 33, 64):
            self.check_code(-2, star_count, 0, [1] * star_count, [])

    def test_weights_outside_their_range(self):
        for wrong in (65536, 65537, 2 ** 31, 2 ** 32 - 1):
            self.check_code(-2, 1, 0, [wrong], [5])
            for place in range(3):
                weights = [1, 0, 65535]
                weights[place] = wrong
                for star in range(3):
                    self.check_code(-2, 3, star, weights, [5, 6, 7, 8, 9, 10])
            self.check_code(-2, 32, 0, [1] * 31 + [wrong], [5] * 32)

    def test_no_magnitudes(self):
        self.check_magnitude_errors(first_star)

    def test_a_magnitude_that_does_not_count_is_refused_too(self):
        for wrong in NO_MAGNITUDES:
            self.check_code(-3, 3, 0, [1, 0, 1], [5, wrong, 7])
            self.check_code(-3, 2, 1, [0, 0], [5, wrong])

    def test_no_such_star(self):
        for star_count in (1, 2, 31, 32):
            for star in (star_count, star_count + 1, 33, 2 ** 31, 2 ** 32 - 1):
                self.check_code(-4, star_count, star, [1] * star_count, [5] * star_count * 3)
            self.check_code(-4, star_count, star_count, [0] * star_count, [5] * star_count)

    def test_2_ahead_of_3(self):
        self.check_error_order(first_star)
        for wrong in NO_MAGNITUDES:
            self.check_code(-2, 2, 0, [1, 65536], [wrong, 5])

    def test_2_ahead_of_4(self):
        for star in (0, 1, 33, 2 ** 32 - 1):
            self.check_code(-2, 0, star, [], [])
            self.check_code(-2, 1, star, [], [])
            self.check_code(-2, 1, star, [65536], [5])
            self.check_code(-2, 33, star, [1] * 33, [5] * 33)
            self.check_code(-2, 1, star, [1], [5] * 65)

    def test_3_ahead_of_4(self):
        for wrong in NO_MAGNITUDES:
            self.check_code(-3, 1, 1, [1], [wrong])
            self.check_code(-3, 2, 2 ** 32 - 1, [1, 1], [5, wrong])

    def test_2_ahead_of_3_and_4(self):
        self.check_code(-2, 2, 2, [1, 65536], [5, 100000])
        self.check_code(-2, 33, 33, [1] * 33, [100000] * 33)


class RequirementThree(DifferentialTest):
    def test_adding_a_constant_to_an_image(self):
        for star_count, image_count in ((2, 1), (3, 4), (4, 2), (7, 5), (32, 64)):
            images = scattered_images(star_count, image_count, 40000, star_count)
            weights = [abs(number) + 1 for number in scattered_numbers(star_count, 65534, image_count)]
            for star in (0, star_count - 1):
                before = differential_magnitudes(star_count, star, weights, table(images))
                for amount in (-59999, -1, 1, 12345, 59999):
                    for place in (0, image_count - 1):
                        moved = list(images)
                        moved[place] = [magnitude + amount for magnitude in images[place]]
                        self.assertEqual(differential_magnitudes(star_count, star, weights, table(moved)), before)

    def test_ties_moved_across_zero(self):
        for amount in range(-6, 7):
            self.check(0, [0, 1, 1], [[10 + amount, amount, 1 + amount]], [9])


class Purity(DifferentialTest):
    def test_nothing_is_changed_or_kept(self):
        self.check_pure(differential_magnitudes, 3, 1, [4, 5, 6], table(scattered_images(3, 4)))
        self.check_pure(differential_magnitudes, 1, 0, [7], [2 ** 32 - 1])
        self.check_pure(differential_magnitudes, 2, 0, [65536, 1], [1, 2])
        self.check_pure(differential_magnitudes, 2, 0, [1, 1], [100000, 1])
        self.check_pure(differential_magnitudes, 2, 2, [1, 1], [1, 1])
        self.check_pure(differential_magnitudes, 0, 0, [], [])


if __name__ == "__main__":
    unittest.main()
