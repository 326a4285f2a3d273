"""What names of folders and files may look like, and in what order they stand."""

from discimages.fields import BLANK

POINT = 46
# ;1
VERSION = (59, 49)
MOST_IN_FOLDER_NAME = 31
MOST_IN_FILE_NAME = 30


def is_sign(value):
    is_letter = 65 <= value <= 90
    is_digit = 48 <= value <= 57
    return is_letter or is_digit or value == 95


def is_folder_name(name):
    return 1 <= len(name) <= MOST_IN_FOLDER_NAME and all([is_sign(value) for value in name])


def is_file_name(name):
    if tuple(name[-2:]) != VERSION:
        return False
    front = name[:-2]
    signs = [value for value in front if is_sign(value)]
    # With one point and one byte more than there are signs, nothing else is in the name.
    has_one_point = front.count(POINT) == 1 and len(front) == len(signs) + 1
    return has_one_point and 1 <= len(signs) <= MOST_IN_FILE_NAME


def fill_up(name, length):
    return name + [BLANK] * (length - len(name))


def comes_before(name, other):
    length = max(len(name), len(other))
    return fill_up(name, length) < fill_up(other, length)
