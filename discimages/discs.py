"""The calls: each takes an image as a list of bytes and answers with a list of numbers."""

from discimages.fields import BLANK
from discimages.refusals import BadImage
from discimages.volumes import read_volume

MOST_BYTES = 16777216


def show_name(name):
    end = len(name)
    while end > 0 and name[end - 1] == BLANK:
        end = end - 1
    return name[:end] + [0] * (len(name) - end)


def look(image):
    if len(image) > MOST_BYTES:
        return [-2]
    try:
        volume = read_volume(image)
    except BadImage:
        return [-3]
    tree = volume.tree
    return [0, volume.sectors, len(tree.folders), tree.files] + show_name(volume.name)
