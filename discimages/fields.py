"""Numbers as they stand among an image's bytes."""

from discimages.refusals import BadImage

SECTOR = 2048
BLANK = 32


def read_higher_first(values):
    number = 0
    for value in values:
        number = number * 256 + value
    return number


def read_lower_first(values):
    return read_higher_first(list(reversed(values)))


def read_both_ways(image, at, width):
    lower = image[at:at + width]
    higher = image[at + width:at + 2 * width]
    if lower != list(reversed(higher)):
        raise BadImage()
    return read_higher_first(higher)


def write_number(number, width, is_lower_first):
    values = []
    rest = number
    for k in range(width):
        values.append(rest % 256)
        rest = rest // 256
    return values if is_lower_first else list(reversed(values))
