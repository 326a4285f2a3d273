"""The calls: each takes an image as a list of bytes and answers with a list of numbers."""

from discimages.fields import BLANK
from discimages.listings import write_listing
from discimages.paths import cut_piece, find_file
from discimages.refusals import BadImage, NoFile
from discimages.volumes import read_volume

MOST_BYTES = 16777216
MOST_IN_PATH = 1024


def is_number_of_bytes(number):
    return 0 <= number <= MOST_BYTES


def show_name(name):
    end = len(name)
    while end > 0 and name[end - 1] == BLANK:
        end = end - 1
    return name[:end] + [0] * (len(name) - end)


def look(image):
    if not is_number_of_bytes(len(image)):
        return [-2]
    try:
        volume = read_volume(image)
    except BadImage:
        return [-3]
    tree = volume.tree
    return [0, volume.sectors, len(tree.folders), tree.files] + show_name(volume.name)


def list_all(most, image):
    if not is_number_of_bytes(len(image)) or not is_number_of_bytes(most):
        return [-2]
    try:
        volume = read_volume(image)
    except BadImage:
        return [-3]
    listing = write_listing(volume.tree.folders[0])
    if len(listing) > most:
        return [-1]
    return [len(listing)] + listing


def file(start, most, image, path):
    if not is_number_of_bytes(len(image)) or not is_number_of_bytes(most):
        return [-2]
    if len(path) > MOST_IN_PATH or start < 0:
        return [-2]
    try:
        record = find_file(read_volume(image).tree.folders[0], path)
    except BadImage:
        return [-3]
    except NoFile:
        return [-4]
    piece = cut_piece(image, record, start, most)
    return [len(piece)] + piece
