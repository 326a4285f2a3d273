"""What the tests of the calls have in common: what is right or wrong for one is so for each."""

import unittest

from discbuilder import MAIN, SECTOR, Disc, File, Folder, answer, bytes_of, chain, files_of, listing, put
from discimages.discs import file, list_all, look

MOST = 16777216
GREATEST = 2147483647


def rich_disc(boots=1):
    """A right disc that has something of everything: 5 folders, 4 files."""
    inner = Folder(b"IN", [File(b"LEAF.TXT;1", 5)])
    return Disc([
        File(b"A.;1", 10),
        Folder(b"B", [inner, File(b"N.1;1")]),
        Folder(b"CC", [File(b".C;1", 2048, flags=1)], flags=3),
        Folder(b"D"),
    ], name=b"RICH", boots=boots)


def wrong_images():
    """An image for each part that may be wrong; a path to a file stands in most of them."""
    disc = rich_disc()
    yield []
    yield [0] * 100000
    yield disc.image[:-1]
    yield disc.image[:MAIN + 500]
    yield put(list(disc.image), MAIN, [2])
    yield put(list(disc.image), disc.top.record_at(3) + 1, [1])
    yield put(list(disc.image), disc.folders[-1].record_at(0) + 25, [0])
    yield put(list(disc.image), disc.higher_place * SECTOR, [2])
    yield chain(9, [File(b"A.;1")]).image
    yield Disc([File(b"A.;1", 0, place=22)]).image


class Watched(list):
    """A list that can't be changed, not for a while either."""

    def refuse(self, *values, **named):
        raise AssertionError("what is handed in is changed")

    __setitem__ = __delitem__ = __iadd__ = __imul__ = refuse
    append = extend = insert = pop = remove = clear = sort = reverse = refuse


def answers(image):
    """What each call answers, with the least and the greatest number that most may be.

    Of file no bytes are asked for, so that images that differ in these alone are answered alike.
    """
    told = [look(image), list_all(0, image), list_all(MOST, image)]
    return told + [file(0, 0, image, list(b"/A.;1")), file(GREATEST, MOST, image, [])]


def is_refused(image):
    return all(answered == [-3] for answered in answers(image))


class DiscCase(unittest.TestCase):
    def assert_right(self, disc, folders, files):
        self.assertEqual(look(disc.image), answer(disc, folders, files))
        self.assert_listed(disc.image, listing(disc))
        found = files_of(disc)
        for path, member in found[:1] + found[-1:]:
            self.assert_handed_out(disc.image, path, bytes_of(disc, member))

    def assert_handed_out(self, image, path, values):
        """All bytes of a file are handed out with just enough room and with more, and one less with less."""
        values = list(values)
        for most in (len(values), len(values) + 1, MOST):
            self.assert_same_numbers(file(0, most, image, list(path)), [len(values)] + values)
        if len(values) > 0:
            self.assert_same_numbers(file(0, len(values) - 1, image, list(path)), [len(values) - 1] + values[:-1])
            self.assertEqual(file(len(values) - 1, 2, image, list(path)), [1, values[-1]])
        self.assertEqual(file(len(values), MOST, image, list(path)), [0])

    def assert_listed(self, image, told):
        """The listing is told whole with just enough room and with more, and not with less."""
        for most in (len(told), len(told) + 1, MOST):
            self.assert_same_numbers(list_all(most, image), [len(told)] + list(told))
        for most in {0, len(told) - 1}:
            if 0 <= most < len(told):
                self.assertEqual(list_all(most, image), [-1])

    def assert_same_numbers(self, answered, expected):
        # Of two long lists that differ, unittest's own report takes minutes.
        if answered != expected:
            same = 0
            while same < min(len(answered), len(expected)) and answered[same] == expected[same]:
                same += 1
            self.fail(f"number {same} on: {answered[same:same + 40]}, not {expected[same:same + 40]}")

    def assert_refused(self, image):
        self.assertEqual(answers(image), [[-3]] * 5)

    def assert_refused_with(self, disc, at, values):
        """The disc is right, and is refused with these bytes in it, which are others than before."""
        self.assertEqual(look(disc.image)[0], 0)
        changed = put(list(disc.image), at, values)
        self.assertNotEqual(changed, disc.image)
        self.assert_refused(changed)

    def assert_same_answers(self, image, right):
        self.assertEqual(look(right)[0], 0)
        self.assertEqual(answers(image), answers(right))

    def assert_still_right_with(self, disc, at, values):
        changed = put(list(disc.image), at, values)
        self.assertNotEqual(changed, disc.image)
        self.assert_same_answers(changed, disc.image)
