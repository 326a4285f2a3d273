"""A whole image, read and held to every rule."""

from discimages.descriptors import read_main
from discimages.fields import SECTOR
from discimages.folders import read_tree
from discimages.tables import check_tables


class Volume:
    def __init__(self, sectors, name, tree):
        self.sectors = sectors
        self.name = name
        self.tree = tree


def read_volume(image):
    main = read_main(image)
    tree = read_tree(image, main.top)
    check_tables(image, main, tree.folders)
    return Volume(len(image) // SECTOR, main.name, tree)
