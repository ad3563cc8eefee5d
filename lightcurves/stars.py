"""The operations of the light curve analysis, each a function of its own."""

from lightcurves.tables import image_extinction, read_images, star_medians, table_refusal, to_unsigned


def extinctions(star_count, magnitudes):
    """Operation 0: the median of each star and the extinction of each image."""
    code = table_refusal(star_count, magnitudes)
    if code != 0:
        return [code]
    images = read_images(star_count, magnitudes)
    medians = star_medians(star_count, images)
    answer = [0, star_count]
    answer.extend([to_unsigned(middle) for middle in medians])
    answer.append(len(images))
    answer.extend([to_unsigned(image_extinction(image, medians)) for image in images])
    return answer


def corrected_magnitudes(star_count, magnitudes):
    """Operation 1: the table with the extinction of its image taken from each magnitude."""
    code = table_refusal(star_count, magnitudes)
    if code != 0:
        return [code]
    images = read_images(star_count, magnitudes)
    medians = star_medians(star_count, images)
    answer = [0]
    for image in images:
        extinction = image_extinction(image, medians)
        answer.extend([to_unsigned(magnitude - extinction) for magnitude in image])
    return answer
