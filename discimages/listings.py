"""The listing of a tree: a line, as bytes, for everything below its top folder."""

from discimages.fields import BLANK

SLASH = 47
NEWLINE = 10


class Step:
    # way: the names on the way to the node, its own not among them, each with a / before it.
    def __init__(self, node, way):
        self.node = node
        self.way = way


def write_decimal(number):
    return [ord(digit) for digit in str(number)]


def write_line(record, path):
    if record.is_folder:
        return path + [SLASH, NEWLINE]
    return path + [BLANK] + write_decimal(record.size) + [NEWLINE]


def steps_into(folder, path):
    # The first member stands last, where a step is taken from.
    return [Step(node, path) for node in reversed(folder.members)]


def write_listing(top):
    listing = []
    steps = steps_into(top, [])
    while len(steps) > 0:
        step = steps.pop()
        path = step.way + [SLASH] + step.node.record.name
        listing.extend(write_line(step.node.record, path))
        steps.extend(steps_into(step.node, path))
    return listing
