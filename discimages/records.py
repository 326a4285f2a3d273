"""Records of folders and files, each held to its form."""

from discimages.fields import read_both_ways
from discimages.refusals import BadImage

NAME_AT = 33
# The flags hidden and folder are 1 and 2, so 3 is both and anything above has others.
FOLDER = 2
MOST_FLAGS = 3


class Record:
    def __init__(self, place, size, is_folder, name):
        self.place = place
        self.size = size
        self.is_folder = is_folder
        self.name = name


def check_length(image, at, end):
    length = image[at]
    if length <= NAME_AT or at + length > end:
        raise BadImage()
    name_length = image[at + 32]
    padding = 1 if name_length % 2 == 0 else 0
    if name_length == 0 or length != NAME_AT + name_length + padding:
        raise BadImage()
    if padding == 1 and image[at + length - 1] != 0:
        raise BadImage()


def check_fixed_fields(image, at):
    if image[at + 1] != 0 or image[at + 25] > MOST_FLAGS:
        raise BadImage()
    if image[at + 26] != 0 or image[at + 27] != 0:
        raise BadImage()
    if read_both_ways(image, at + 28, 2) != 1:
        raise BadImage()


def read_record(image, at, end):
    # The length goes first: all other bytes are sure to be there only behind it.
    check_length(image, at, end)
    check_fixed_fields(image, at)
    place = read_both_ways(image, at + 2, 4)
    size = read_both_ways(image, at + 10, 4)
    is_folder = image[at + 25] >= FOLDER
    name = image[at + NAME_AT:at + NAME_AT + image[at + 32]]
    return Record(place, size, is_folder, name)
