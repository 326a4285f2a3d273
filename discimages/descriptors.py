"""The main descriptor and those that follow it."""

from discimages.fields import SECTOR, read_both_ways, read_higher_first, read_lower_first
from discimages.records import read_record
from discimages.refusals import BadImage

MAIN_SECTOR = 16
# CD001 and the 1 behind it
MARK = (67, 68, 48, 48, 49, 1)
KIND_MAIN = 1
KIND_BETWEEN = 0
KIND_LAST = 255
TOP_AT = 156
TOP_LENGTH = 34
TOP_NAME = (0,)


class Main:
    def __init__(self, table_size, lower_table, higher_table, top, name):
        self.table_size = table_size
        self.lower_table = lower_table
        self.higher_table = higher_table
        self.top = top
        self.name = name


def is_descriptor(image, at, kind):
    return image[at] == kind and tuple(image[at + 1:at + 7]) == MARK


def check_whole_sectors(image):
    if len(image) % SECTOR != 0 or len(image) // SECTOR <= MAIN_SECTOR:
        raise BadImage()


def check_main(image, start):
    if not is_descriptor(image, start, KIND_MAIN):
        raise BadImage()
    if image[start + 7] != 0 or image[start + 881] != 1:
        raise BadImage()
    if read_both_ways(image, start + 120, 2) != 1 or read_both_ways(image, start + 124, 2) != 1:
        raise BadImage()
    if read_both_ways(image, start + 128, 2) != SECTOR:
        raise BadImage()
    if read_both_ways(image, start + 80, 4) != len(image) // SECTOR:
        raise BadImage()


def check_followers(image, start):
    at = start
    while at < len(image) and is_descriptor(image, at, KIND_BETWEEN):
        at = at + SECTOR
    if at >= len(image) or not is_descriptor(image, at, KIND_LAST):
        raise BadImage()


def read_top(image, at):
    top = read_record(image, at, at + TOP_LENGTH)
    if not top.is_folder or tuple(top.name) != TOP_NAME:
        raise BadImage()
    return top


def read_main(image):
    check_whole_sectors(image)
    start = MAIN_SECTOR * SECTOR
    check_main(image, start)
    check_followers(image, start + SECTOR)
    table_size = read_both_ways(image, start + 132, 4)
    lower_table = read_lower_first(image[start + 140:start + 144])
    higher_table = read_higher_first(image[start + 148:start + 152])
    top = read_top(image, start + TOP_AT)
    name = image[start + 40:start + 72]
    return Main(table_size, lower_table, higher_table, top, name)
