"""Folders: what stands in one, and all of them from the top one on."""

from discimages.fields import SECTOR
from discimages.names import comes_before, is_file_name, is_folder_name
from discimages.records import read_record
from discimages.refusals import BadImage

SELF_NAME = (0,)
ABOVE_NAME = (1,)
MOST_DEEP = 8
MOST_BELOW_TOP = 16384


class Node:
    # A folder or a file where it stands; a folder that several names lead to has a node for each.
    # above: the number, from 1 on, of the folder it is in. members: nodes; a file has none.
    def __init__(self, record, above, depth):
        self.record = record
        self.above = above
        self.depth = depth
        self.members = []


class Tree:
    # folders: in the order of the tables of paths, the top one first.
    def __init__(self, folders, files):
        self.folders = folders
        self.files = files


def check_in_image(image, record):
    # Of 0 bytes too: where they begin and end has to be in the image.
    if record.place * SECTOR + record.size > len(image):
        raise BadImage()


def check_folder_size(record):
    if record.size == 0 or record.size % SECTOR != 0:
        raise BadImage()


def read_sector(image, start):
    records = []
    at = start
    end = start + SECTOR
    while at < end and image[at] != 0:
        records.append(read_record(image, at, end))
        at = at + image[at]
    if len(records) == 0 or any(image[at:end]):
        raise BadImage()
    return records


def read_all_records(image, folder):
    records = []
    start = folder.place * SECTOR
    for at in range(start, start + folder.size, SECTOR):
        records.extend(read_sector(image, at))
    return records


def check_link(record, folder, name):
    if not record.is_folder or tuple(record.name) != name:
        raise BadImage()
    if record.place != folder.place or record.size != folder.size:
        raise BadImage()


def check_name(record):
    is_fit = is_folder_name(record.name) if record.is_folder else is_file_name(record.name)
    if not is_fit:
        raise BadImage()


def check_order(records):
    for k in range(1, len(records)):
        if not comes_before(records[k - 1].name, records[k].name):
            raise BadImage()


def read_folder(image, folder, above):
    check_folder_size(folder)
    check_in_image(image, folder)
    records = read_all_records(image, folder)
    if len(records) < 2:
        raise BadImage()
    check_link(records[0], folder, SELF_NAME)
    check_link(records[1], above, ABOVE_NAME)
    members = records[2:]
    for record in members:
        check_name(record)
        check_in_image(image, record)
    check_order(members)
    return members


def read_tree(image, top):
    folders = [Node(top, 1, 1)]
    files = 0
    number = 0
    # Several records may lead to one folder, and the top one may hold itself: that this
    # ends is due to both bounds being held after every folder.
    while number < len(folders):
        folder = folders[number]
        above = folders[folder.above - 1]
        records = read_folder(image, folder.record, above.record)
        number = number + 1
        folder.members = [Node(record, number, folder.depth + 1) for record in records]
        below = [node for node in folder.members if node.record.is_folder]
        folders.extend(below)
        files = files + len(records) - len(below)
        if len(below) > 0 and folder.depth == MOST_DEEP:
            raise BadImage()
        if len(folders) - 1 + files > MOST_BELOW_TOP:
            raise BadImage()
    return Tree(folders, files)
