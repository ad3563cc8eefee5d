"""The operations of the light curve analysis, each a function of its own."""

from lightcurves.measurements import differential_magnitude, factor_allowed, folded_series, image_extinction
from lightcurves.measurements import median, period_allowed, read_images, series_refusal, star_medians
from lightcurves.measurements import star_scatters, table_refusal, to_unsigned, weights_allowed


def extinctions(star_count, magnitudes):
    """Operation 0: the median of each star and the extinction of each image."""
    code = table_refusal(star_count, magnitudes)
    if code != 0:
        return [code]
    images = read_images(star_count, magnitudes)
    medians = star_medians(star_count, images)
    answer = [0, star_count]
    answer.extend([to_unsigned(middle) for middle in medians])
    answer.append(len(images))
    answer.extend([to_unsigned(image_extinction(image, medians)) for image in images])
    return answer


def corrected_magnitudes(star_count, magnitudes):
    """Operation 1: the table with the extinction of its image taken from each magnitude."""
    code = table_refusal(star_count, magnitudes)
    if code != 0:
        return [code]
    images = read_images(star_count, magnitudes)
    medians = star_medians(star_count, images)
    answer = [0]
    for image in images:
        extinction = image_extinction(image, medians)
        answer.extend([to_unsigned(magnitude - extinction) for magnitude in image])
    return answer


def scatters(star_count, magnitudes):
    """Operation 2: the scatter of each star."""
    code = table_refusal(star_count, magnitudes)
    if code != 0:
        return [code]
    images = read_images(star_count, magnitudes)
    # A scatter is never negative, so it is answered as it is.
    return [0] + star_scatters(star_count, images)


def differential_magnitudes(star_count, star, weights, magnitudes):
    """Operation 3: the differential magnitude of one star in each image."""
    if not weights_allowed(weights):
        return [-2]
    code = table_refusal(star_count, magnitudes)
    if code != 0:
        return [code]
    if star >= star_count:
        return [-4]
    images = read_images(star_count, magnitudes)
    return [0] + [to_unsigned(differential_magnitude(star, weights, image)) for image in images]


def variable_stars(star_count, factor, magnitudes):
    """Operation 4: the number of variable stars and which ones they are."""
    if not factor_allowed(factor):
        return [-2]
    code = table_refusal(star_count, magnitudes)
    if code != 0:
        return [code]
    all_scatters = star_scatters(star_count, read_images(star_count, magnitudes))
    limit = factor * max(1, median(all_scatters))
    variable = [star for star, scatter in enumerate(all_scatters) if scatter > limit]
    return [len(variable)] + variable


def fold(period, times, magnitudes):
    """Operation 5: the series of magnitudes folded with the period."""
    if not period_allowed(period):
        return [-2]
    code = series_refusal(times, magnitudes)
    if code != 0:
        return [code]
    series = folded_series(period, times, magnitudes)
    answer = [0, len(series)]
    answer.extend([pair[0] for pair in series])
    answer.append(len(series))
    answer.extend([to_unsigned(pair[1]) for pair in series])
    return answer
