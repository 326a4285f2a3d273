"""The two tables of paths, held against the folders that were found."""

from discimages.fields import SECTOR, write_number
from discimages.refusals import BadImage


def write_entry(folder, is_lower_first):
    name = folder.record.name
    padding = [0] * (len(name) % 2)
    place = write_number(folder.record.place, 4, is_lower_first)
    above = write_number(folder.above, 2, is_lower_first)
    return [len(name), 0] + place + above + name + padding


def write_table(folders, is_lower_first):
    table = []
    for folder in folders:
        table.extend(write_entry(folder, is_lower_first))
    return table


def check_table(image, place, size, table):
    start = place * SECTOR
    # A slice that leaves the image is shorter than the table, so it differs too.
    if size != len(table) or image[start:start + size] != table:
        raise BadImage()


def check_tables(image, main, folders):
    check_table(image, main.lower_table, main.table_size, write_table(folders, True))
    check_table(image, main.higher_table, main.table_size, write_table(folders, False))
