"""The file that a path leads to, as the listing tells it, and a piece of its bytes."""

from discimages.fields import SECTOR
from discimages.listings import SLASH
from discimages.refusals import NoFile


def split_path(path):
    # What stands ahead of the first / comes first, though it is no name.
    pieces = [[]]
    for value in path:
        if value == SLASH:
            pieces.append([])
        else:
            pieces[-1].append(value)
    return pieces


def find_member(folder, name):
    for node in folder.members:
        if node.record.name == name:
            return node
    raise NoFile()


def find_file(top, path):
    pieces = split_path(path)
    if len(pieces[0]) > 0:
        raise NoFile()
    node = top
    for name in pieces[1:]:
        node = find_member(node, name)
    if node.record.is_folder:
        raise NoFile()
    return node.record


def cut_piece(image, record, start, most):
    place = record.place * SECTOR
    end = min(start + most, record.size)
    # A start behind the end cuts nothing out.
    return image[place + start:place + end]
