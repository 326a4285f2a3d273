"""What the tests of the calls have in common: what is right or wrong for one is so for each."""

import unittest

from discbuilder import Disc, File, Folder, answer, listing, put
from discimages.discs import list_all, look

MOST = 16777216


def rich_disc(boots=1):
    """A right disc that has something of everything: 5 folders, 4 files."""
    inner = Folder(b"IN", [File(b"LEAF.TXT;1", 5)])
    return Disc([
        File(b"A.;1", 10),
        Folder(b"B", [inner, File(b"N.1;1")]),
        Folder(b"CC", [File(b".C;1", 2048, flags=1)], flags=3),
        Folder(b"D"),
    ], name=b"RICH", boots=boots)


def answers(image):
    """What each call answers; list_all with the least and the greatest number that most may be."""
    return [look(image), list_all(0, image), list_all(MOST, image)]


class DiscCase(unittest.TestCase):
    def assert_right(self, disc, folders, files):
        self.assertEqual(look(disc.image), answer(disc, folders, files))
        self.assert_listed(disc.image, listing(disc))

    def assert_listed(self, image, told):
        """The listing is told whole with just enough room and with more, and not with less."""
        for most in (len(told), len(told) + 1, MOST):
            self.assert_same_numbers(list_all(most, image), [len(told)] + list(told))
        for most in {0, len(told) - 1}:
            if 0 <= most < len(told):
                self.assertEqual(list_all(most, image), [-1])

    def assert_same_numbers(self, answered, expected):
        # Of two long lists that differ, unittest's own report takes minutes.
        if answered != expected:
            same = 0
            while same < min(len(answered), len(expected)) and answered[same] == expected[same]:
                same += 1
            self.fail(f"number {same} on: {answered[same:same + 40]}, not {expected[same:same + 40]}")

    def assert_refused(self, image):
        self.assertEqual(answers(image), [[-3]] * 3)

    def assert_refused_with(self, disc, at, values):
        """The disc is right, and is refused with these bytes in it, which are others than before."""
        self.assertEqual(look(disc.image)[0], 0)
        changed = put(list(disc.image), at, values)
        self.assertNotEqual(changed, disc.image)
        self.assert_refused(changed)

    def assert_same_answers(self, image, right):
        self.assertEqual(look(right)[0], 0)
        self.assertEqual(answers(image), answers(right))

    def assert_still_right_with(self, disc, at, values):
        changed = put(list(disc.image), at, values)
        self.assertNotEqual(changed, disc.image)
        self.assert_same_answers(changed, disc.image)
