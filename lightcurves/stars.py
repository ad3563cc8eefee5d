"""The operations of the light curve analysis, each a function of its own."""

from lightcurves.measurements import binned_magnitudes, bins_allowed, deepest_box, differential_magnitude
from lightcurves.measurements import distance_allowed, factor_allowed, folded_series, image_extinction, median
from lightcurves.measurements import parabola_minimum_time, partner_difference, period_allowed, read_images
from lightcurves.measurements import series_refusal, star_medians, star_scatters, table_refusal, time_phase
from lightcurves.measurements import to_signed, to_unsigned, to_unsigned_64, trial_value, trials_allowed
from lightcurves.measurements import weights_allowed


def extinctions(star_count, magnitudes):
    """Operation 0: the median of each star and the extinction of each image."""
    code = table_refusal(star_count, magnitudes)
    if code != 0:
        return [code]
    images = read_images(star_count, magnitudes)
    medians = star_medians(star_count, images)
    answer = [0, star_count]
    answer.extend([to_unsigned(middle) for middle in medians])
    answer.append(len(images))
    answer.extend([to_unsigned(image_extinction(image, medians)) for image in images])
    return answer


def corrected_magnitudes(star_count, magnitudes):
    """Operation 1: the table with the extinction of its image taken from each magnitude."""
    code = table_refusal(star_count, magnitudes)
    if code != 0:
        return [code]
    images = read_images(star_count, magnitudes)
    medians = star_medians(star_count, images)
    answer = [0]
    for image in images:
        extinction = image_extinction(image, medians)
        answer.extend([to_unsigned(magnitude - extinction) for magnitude in image])
    return answer


def scatters(star_count, magnitudes):
    """Operation 2: the scatter of each star."""
    code = table_refusal(star_count, magnitudes)
    if code != 0:
        return [code]
    images = read_images(star_count, magnitudes)
    # A scatter is never negative, so it is answered as it is.
    return [0] + star_scatters(star_count, images)


def differential_magnitudes(star_count, star, weights, magnitudes):
    """Operation 3: the differential magnitude of one star in each image."""
    if not weights_allowed(weights):
        return [-2]
    code = table_refusal(star_count, magnitudes)
    if code != 0:
        return [code]
    if star >= star_count:
        return [-4]
    images = read_images(star_count, magnitudes)
    return [0] + [to_unsigned(differential_magnitude(star, weights, image)) for image in images]


def variable_stars(star_count, factor, magnitudes):
    """Operation 4: the number of variable stars and which ones they are."""
    if not factor_allowed(factor):
        return [-2]
    code = table_refusal(star_count, magnitudes)
    if code != 0:
        return [code]
    all_scatters = star_scatters(star_count, read_images(star_count, magnitudes))
    limit = factor * max(1, median(all_scatters))
    variable = [star for star, scatter in enumerate(all_scatters) if scatter > limit]
    return [len(variable)] + variable


def fold(period, times, magnitudes):
    """Operation 5: the series of magnitudes folded with the period."""
    if not period_allowed(period):
        return [-2]
    code = series_refusal(times, magnitudes)
    if code != 0:
        return [code]
    series = folded_series(period, times, magnitudes)
    answer = [0, len(series)]
    answer.extend([pair[0] for pair in series])
    answer.append(len(series))
    answer.extend([to_unsigned(pair[1]) for pair in series])
    return answer


def search_periods(criterion, bins, first, step, trials, times, magnitudes):
    """Operation 6: which trial period is the best one, and the value of each."""
    if criterion > 1 or not bins_allowed(bins) or not trials_allowed(first, step, trials):
        return [-2]
    code = series_refusal(times, magnitudes)
    if code != 0:
        return [code]
    values = []
    for trial in range(trials):
        series = folded_series(first + step * trial, times, magnitudes)
        values.append(trial_value(criterion, bins, series))
    # A value is never negative, so it is answered as it is.
    return [values.index(min(values))] + values


def best_box(period, bins, max_width, times, magnitudes):
    """Operation 7: the start, the width and the depth of the deepest box."""
    if not period_allowed(period) or not bins_allowed(bins) or not bins_allowed(max_width):
        return [-2]
    code = series_refusal(times, magnitudes)
    if code != 0:
        return [code]
    contents = binned_magnitudes(bins, folded_series(period, times, magnitudes))
    counts = [len(inside) for inside in contents]
    sums = [sum(inside) for inside in contents]
    # The depth of the deepest box is never negative, so it is answered as it is.
    return [0] + deepest_box(max_width, counts, sums)


def parabola_minimum(time, step, a, b, c):
    """Operation 8: the time of minimum of the parabola through three values."""
    if not distance_allowed(step):
        return [-2]
    minimum = parabola_minimum_time(to_signed(time), step, to_signed(a), to_signed(b), to_signed(c))
    return [0, to_unsigned_64(minimum)]


def asymmetry(tolerance, time, times, magnitudes):
    """Operation 9: how unlike the magnitudes ahead of a time are to those that mirror them."""
    code = series_refusal(times, magnitudes)
    if code != 0:
        return [code]
    series = [(taken, to_signed(number)) for taken, number in zip(times, magnitudes)]
    earlier = [measurement for measurement in series if measurement[0] < time]
    # A sum of absolute differences is never negative, so it is answered as it is.
    return [0, sum([partner_difference(tolerance, time, measurement, series) for measurement in earlier])]


def phase(period, time):
    """Operation 10: the phase of a time, alone and without a 0 ahead of it."""
    # Any period is allowed here, and one of 0 is treated as 1.
    return [time_phase(max(1, period), time)]
