"""Magnitudes in tables, in series and on parabolas: checked, read, measured and made ready to be answered."""

MOST_STARS = 32
MOST_IMAGES = 64
MAGNITUDE_BOUND = 100000
GREATEST_WEIGHT = 65535
GREATEST_FACTOR = 65535
MOST_TIMES = 1024
GREATEST_PERIOD = 16777216
GREATEST_STEP = 65536
MOST_BINS = 64
MOST_TRIALS = 64
PHASES = 65536


def to_signed(number):
    """The signed 32-bit integer that a number from 0 to 4294967295 stands for."""
    if number >= 2 ** 31:
        return number - 2 ** 32
    return number


def to_unsigned(number):
    """A signed 32-bit integer in the form in which it is answered."""
    if number < 0:
        return number + 2 ** 32
    return number


def to_unsigned_64(number):
    """A signed 64-bit integer in the form in which it is answered."""
    if number < 0:
        return number + 2 ** 64
    return number


def size_allowed(star_count, table_length):
    """Whether the number of stars and the number of images are in their ranges."""
    if star_count < 1 or star_count > MOST_STARS:
        return False
    image_count = table_length // star_count
    return image_count >= 1 and image_count <= MOST_IMAGES


def magnitudes_allowed(magnitudes):
    """Whether each of the numbers stands for a magnitude."""
    return all([abs(to_signed(number)) < MAGNITUDE_BOUND for number in magnitudes])


def weights_allowed(weights):
    """Whether each of the weights is in its range."""
    return all([weight <= GREATEST_WEIGHT for weight in weights])


def factor_allowed(factor):
    """Whether the factor is in its range."""
    return factor <= GREATEST_FACTOR


def period_allowed(period):
    """Whether the period is in its range."""
    return period >= 1 and period <= GREATEST_PERIOD


def bins_allowed(bins):
    """Whether a number of bins, in all or in a box, is in its range."""
    return bins >= 1 and bins <= MOST_BINS


def trials_allowed(first, step, trials):
    """Whether the first trial period, the step and the number of trials are in their ranges."""
    # The trial periods behind the first one may lie beyond the range of a period.
    return period_allowed(first) and step <= GREATEST_STEP and trials >= 1 and trials <= MOST_TRIALS


def distance_allowed(step):
    """Whether the distance of the three times of a parabola is in its range."""
    return step >= 1 and step <= GREATEST_STEP


def table_refusal(star_count, magnitudes):
    """The error code for a table, or 0 if nothing is wrong with it."""
    if not size_allowed(star_count, len(magnitudes)):
        return -2
    if not magnitudes_allowed(magnitudes):
        return -3
    return 0


def series_refusal(times, magnitudes):
    """The error code for magnitudes with their times, or 0 if nothing is wrong with them."""
    if len(times) > MOST_TIMES:
        return -2
    if not magnitudes_allowed(magnitudes):
        return -3
    return 0


def read_images(star_count, magnitudes):
    """The table as a list of images, each the list of its signed magnitudes."""
    signed = [to_signed(number) for number in magnitudes]
    return [signed[start:start + star_count] for start in range(0, len(signed), star_count)]


def star_values(star, images):
    """The magnitudes of one star, image by image."""
    return [image[star] for image in images]


def median(values):
    """The middle one of the sorted values, the lower one of two middle ones."""
    return sorted(values)[(len(values) - 1) // 2]


def star_medians(star_count, images):
    """The median of each star."""
    return [median(star_values(star, images)) for star in range(star_count)]


def image_extinction(image, medians):
    """The extinction of an image, given the medians of the stars."""
    return median([magnitude - middle for magnitude, middle in zip(image, medians)])


def spread_of(values):
    """The variance of the values times the square of their number."""
    return len(values) * sum([value * value for value in values]) - sum(values) ** 2


def scatter_of(values):
    """The scatter of the values, in 256ths of a squared magnitude."""
    return 256 * spread_of(values) // len(values) ** 2


def star_scatters(star_count, images):
    """The scatter of each star."""
    return [scatter_of(star_values(star, images)) for star in range(star_count)]


def round_div(a, b):
    """a / b for b > 0, rounded to the nearest whole number; ties round up."""
    return (2 * a + b) // (2 * b)


def differential_magnitude(star, weights, image):
    """The magnitude of the star in an image relative to the weighted mean of the others."""
    others = list(weights)
    others[star] = 0
    total = sum(others)
    if total == 0:
        return 0
    weighted = sum([weight * magnitude for weight, magnitude in zip(others, image)])
    return image[star] - round_div(weighted, total)


def time_phase(period, time):
    """The phase of a time, in 65536ths of the period."""
    return PHASES * (time % period) // period


def folded_series(period, times, magnitudes):
    """The pairs of phase and signed magnitude in increasing order of phase."""
    pairs = [(time_phase(period, time), to_signed(number)) for time, number in zip(times, magnitudes)]
    # By the phase alone, since pairs of equal phases keep their order.
    return sorted(pairs, key=lambda pair: pair[0])


def string_length(series):
    """The string length of a folded series."""
    magnitudes = [pair[1] for pair in series]
    # Behind the last magnitude the first one follows.
    following = magnitudes[1:] + magnitudes[:1]
    return sum([abs(after - before) for before, after in zip(magnitudes, following)])


def binned_magnitudes(bins, series):
    """For each bin the list of the magnitudes that it contains."""
    contents = [[] for place in range(bins)]
    for pair in series:
        contents[pair[0] * bins // PHASES].append(pair[1])
    return contents


def binned_scatter(bins, series):
    """The binned scatter of a folded series."""
    filled = [magnitudes for magnitudes in binned_magnitudes(bins, series) if len(magnitudes) > 0]
    return sum([spread_of(magnitudes) // len(magnitudes) for magnitudes in filled])


def trial_value(criterion, bins, series):
    """The value of a trial period, given the series folded with it."""
    if criterion == 0:
        return string_length(series)
    return binned_scatter(bins, series)


def box_depth(start, width, counts, sums):
    """The depth of a box, given the number and the sum of the magnitudes in each bin."""
    bins = len(counts)
    inside = [place for place in range(bins) if (place - start) % bins < width]
    count = sum([counts[place] for place in inside])
    total = sum([sums[place] for place in inside])
    # Where the box contains all magnitudes or none, both products are 0.
    return total * (sum(counts) - count) - (sum(sums) - total) * count


def deepest_box(max_width, counts, sums):
    """Start, width and depth of the first box with the greatest depth, or three times 0."""
    best = [0, 0, 0]
    for width in range(1, max_width + 1):
        for start in range(len(counts)):
            depth = box_depth(start, width, counts, sums)
            if depth > best[2]:
                best = [start, width, depth]
    return best


def parabola_minimum_time(time, step, a, b, c):
    """The time of the minimum of the parabola through three values, or the middle time if it has none."""
    d = a - 2 * b + c
    if d <= 0:
        return time
    return time + round_div(step * (a - c), 2 * d)


def partner_difference(tolerance, axis, measurement, series):
    """The absolute difference of the magnitudes of a measurement and its partner, or 0 without a partner.

    A measurement is a pair of time and signed magnitude, and the series is the list of all of them.
    """
    mirrored = 2 * axis - measurement[0]
    # The partner may be any measurement of the series, this one and earlier ones too.
    for time, magnitude in series:
        if abs(time - mirrored) <= tolerance:
            return abs(magnitude - measurement[1])
    return 0
