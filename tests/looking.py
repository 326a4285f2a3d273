"""What the tests of look have in common."""

import unittest

from discbuilder import Disc, File, Folder, answer, put
from discimages.discs import look


def rich_disc(boots=1):
    """A right disc that has something of everything: 5 folders, 4 files."""
    inner = Folder(b"IN", [File(b"LEAF.TXT;1", 5)])
    return Disc([
        File(b"A.;1", 10),
        Folder(b"B", [inner, File(b"N.1;1")]),
        Folder(b"CC", [File(b".C;1", 2048, flags=1)], flags=3),
        Folder(b"D"),
    ], name=b"RICH", boots=boots)


class LookCase(unittest.TestCase):
    def assert_right(self, disc, folders, files):
        self.assertEqual(look(disc.image), answer(disc, folders, files))

    def assert_refused(self, image):
        self.assertEqual(look(image), [-3])

    def assert_refused_with(self, disc, at, values):
        """The disc is right, and is refused with these bytes in it, which are others than before."""
        self.assertEqual(look(disc.image)[0], 0)
        changed = put(list(disc.image), at, values)
        self.assertNotEqual(changed, disc.image)
        self.assert_refused(changed)

    def assert_still_right_with(self, disc, at, values):
        changed = put(list(disc.image), at, values)
        self.assertNotEqual(changed, disc.image)
        self.assertEqual(look(changed), look(disc.image))
        self.assertEqual(look(changed)[0], 0)
