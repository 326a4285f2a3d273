"""file: which bytes it hands out of right images, compared number by number."""

import unittest

from discbuilder import SECTOR, Alias, Disc, File, Folder, bytes_of, chain, crowd, file_names, files_of, folder_names
from discbuilder import one_folder_as, put
from disccase import GREATEST, MOST, DiscCase, rich_disc
from discimages.discs import file, list_all

SIZES = (0, 1, 2, 255, 256, 2047, 2048, 2049, 4095, 4096, 4097, 20000)


def pattern(count, seed=0):
    """Bytes of every value, in an order that repeats itself only after 65536 of them."""
    return [(k * 7 + k // 256 + seed) % 256 for k in range(count)]


class OrdinaryImages(DiscCase):
    def assert_each_handed_out(self, members, count):
        """Each path that leads to a file is tried, so many there are."""
        disc = Disc(members)
        self.assertLessEqual(len(disc.image), 100000)
        found = files_of(disc)
        self.assertEqual(len(found), count)
        for path, member in found:
            with self.subTest(path=path):
                values = member.values if member.values else bytes_of(disc, member)
                self.assertEqual(len(values), member.size)
                self.assert_handed_out(disc.image, path, values)

    def test_one_file_number_by_number(self):
        image = Disc([File(b"A.B;1", values=[0, 255, 10, 47])]).image
        path = [47, 65, 46, 66, 59, 49]
        self.assertEqual(file(0, MOST, image, path), [4, 0, 255, 10, 47])
        self.assertEqual(file(1, 2, image, path), [2, 255, 10])

    def test_files_in_the_top_folder(self):
        members = [File(b"A.;1", values=pattern(1)), File(b"B.TXT;1", values=pattern(5000, 3))]
        self.assert_each_handed_out(members + [File(b"C.;1", values=pattern(2048, 5))], 3)

    def test_how_many_bytes_a_file_has(self):
        for size in SIZES:
            self.assert_each_handed_out([File(b"A.;1", values=pattern(size, 1)), File(b"B.;1", values=[9])], 2)

    def test_every_value(self):
        image = Disc([File(b"A.;1", values=range(256))]).image
        self.assertEqual(file(0, 256, image, list(b"/A.;1")), [256] + list(range(256)))

    def test_an_empty_file(self):
        image = Disc([File(b"A.;1"), File(b"B.;1", values=[1]), File(b"C.;1", 0, place=0)]).image
        for path in (b"/A.;1", b"/C.;1"):
            for start in (0, 1, 2048, GREATEST):
                for most in (0, 1, MOST):
                    self.assertEqual(file(start, most, image, list(path)), [0])

    def test_an_empty_file_just_at_the_end_of_the_image(self):
        disc = Disc([File(b"A.;1")])
        self.assertEqual(disc.top.members[0].place, disc.sectors)
        self.assertEqual(file(0, MOST, disc.image, list(b"/A.;1")), [0])

    def test_2_deep(self):
        first = Folder(b"A", [File(b"X.;1", values=pattern(100))])
        second = Folder(b"B", [File(b"X.;1", values=pattern(9, 4))])
        self.assert_each_handed_out([first, second, File(b"X.;1", values=pattern(50, 8))], 3)

    def test_8_deep(self):
        disc = chain(8, [File(b"A.;1", values=pattern(3000)), File(b"B.;1", values=pattern(10, 2))])
        self.assert_handed_out(disc.image, b"/DOWN" * 7 + b"/A.;1", pattern(3000))
        self.assert_handed_out(disc.image, b"/DOWN" * 7 + b"/B.;1", pattern(10, 2))

    def test_at_every_depth(self):
        members = [File(b"X.;1", values=[8] * 8)]
        for depth in range(7, 0, -1):
            members = [Folder(b"D", members), File(b"X.;1", values=[depth] * depth)]
        self.assert_each_handed_out(members, 8)

    def test_hidden_ones(self):
        hidden = Folder(b"H", [File(b"X.;1", values=[1, 2], flags=1)], flags=3)
        self.assert_each_handed_out([File(b"A.;1", values=[3, 4, 5], flags=1), hidden], 2)

    def test_behind_a_folder_with_something_in_it(self):
        inner = Folder(b"Y", [File(b"X.;1", values=[2])])
        below = Folder(b"B", [File(b"X.;1", values=[1]), inner, File(b"Z.;1", values=[3])])
        self.assert_each_handed_out([below, File(b"X.;1", values=[4]), File(b"Z.;1", values=[5])], 5)

    def test_names_that_begin_alike(self):
        names = [b"A", b"A.;1", b"A.A;1", b"A.AA;1", b"AA", b"AA.;1", b"AA.A;1"]
        members = [File(name, values=[k]) if b"." in name else Folder(name, [File(b"A.;1", values=[100 + k])])
                   for k, name in enumerate(names)]
        self.assert_each_handed_out(members, 7)

    def test_several_names_of_one_folder(self):
        below = Folder(b"A", [File(b"X.;1", values=[1, 2]), Folder(b"Y", [File(b"Z.;1", values=[3, 4, 5])])])
        self.assert_each_handed_out([below, Alias(b"B", below), Alias(b"D", below)], 6)

    def test_several_names_in_two_levels(self):
        inner = one_folder_as([b"X", b"Y"], [File(b"F.;1", values=pattern(77))])
        self.assert_each_handed_out(one_folder_as([b"A", b"B"], inner), 4)

    def test_files_that_share_their_bytes(self):
        members = [File(b"A.;1", place=0, values=pattern(5000)), File(b"B.;1", 5000, place=0),
                   File(b"C.;1", 30, place=0),
                   Folder(b"D", [File(b"A.;1", 2952, place=1), File(b"B.;1", 4096, place=1)])]
        disc = Disc(members)
        self.assert_handed_out(disc.image, b"/B.;1", pattern(5000))
        self.assert_handed_out(disc.image, b"/D/A.;1", pattern(5000)[SECTOR:])
        self.assert_each_handed_out(members, 5)

    def test_the_whole_image_as_a_file(self):
        disc = Disc([File(b"A.;1", 48 * SECTOR, place=0), File(b"B.;1", values=pattern(27 * SECTOR))])
        self.assertEqual(len(disc.image), 48 * SECTOR)
        self.assert_handed_out(disc.image, b"/A.;1", disc.image)
        self.assert_handed_out(disc.image, b"/B.;1", pattern(27 * SECTOR))

    def test_a_folders_bytes_as_a_file(self):
        disc = Disc([File(b"A.;1", SECTOR, place=20)])
        self.assertEqual(disc.top.place, 20)
        self.assert_handed_out(disc.image, b"/A.;1", disc.image[20 * SECTOR:21 * SECTOR])

    def test_the_longest_names(self):
        folder, name = b"F" * 31, b"N" * 15 + b"." + b"M" * 15 + b";1"
        members = [File(name, values=pattern(300))]
        for k in range(7):
            members = [Folder(folder, members)]
        path = (b"/" + folder) * 7 + b"/" + name
        self.assertEqual(len(path), 258)
        self.assert_handed_out(Disc(members).image, path, pattern(300))

    def test_a_folder_of_several_sectors(self):
        names = file_names(150)
        whole = File(names[0], place=0, values=pattern(16 * SECTOR))
        pieces = [File(name, k * 13, place=k % 15) for k, name in enumerate(names[1:])]
        self.assert_each_handed_out([Folder(b"MANY", [whole] + pieces)], 150)

    def test_sectors_that_end_before_they_are_full(self):
        below = Folder(b"B", [File(b"X.;1", values=[1]), File(b"Y.;1", values=[2, 2])], breaks=(1, 2, 3))
        self.assert_each_handed_out([below, File(b"C.;1", values=[3, 3, 3])], 3)

    def test_something_of_everything(self):
        disc = rich_disc()
        for path, member in files_of(disc):
            self.assert_handed_out(disc.image, path, bytes_of(disc, member))

    def test_a_size_that_is_told_anew(self):
        disc = Disc([File(b"A.;1", values=pattern(100))])
        image = put(list(disc.image), disc.top.record_at(2) + 10, [50, 0, 0, 0, 0, 0, 0, 50])
        self.assert_handed_out(image, b"/A.;1", pattern(50))

    def test_bytes_that_are_others(self):
        disc = Disc([File(b"A.;1", values=pattern(10))])
        start = disc.top.members[0].place * SECTOR
        image = put(list(disc.image), start + 4, [200])
        self.assert_handed_out(image, b"/A.;1", pattern(10)[:4] + [200] + pattern(10)[5:])


class StartAndMost(DiscCase):
    def disc(self, size):
        """Bytes of other files lie ahead of the file and behind it."""
        ahead, behind = File(b"A.;1", values=[1] * SECTOR), File(b"C.;1", values=[2] * SECTOR)
        return Disc([ahead, File(b"B.;1", values=pattern(size)), behind])

    def assert_piece(self, size, image, start, most):
        piece = pattern(size)[start:start + most]
        self.assert_same_numbers(file(start, most, image, list(b"/B.;1")), [len(piece)] + piece)

    def test_edges(self):
        for size in SIZES:
            image = self.disc(size).image
            for start in {0, 1, size // 2, max(size - 1, 0), size, size + 1, size + SECTOR, len(image), MOST, GREATEST}:
                left = max(size - start, 0)
                for most in {0, 1, left // 2, max(left - 1, 0), left, left + 1, size, SECTOR, len(image), MOST}:
                    with self.subTest(size=size, start=start, most=most):
                        self.assert_piece(size, image, start, most)

    def test_every_pair_of_a_short_file(self):
        image = self.disc(5).image
        for start in range(9):
            for most in range(9):
                self.assert_piece(5, image, start, most)

    def test_number_by_number(self):
        image = Disc([File(b"A.;1", values=[10, 20, 30, 40])]).image
        path = list(b"/A.;1")
        self.assertEqual(file(0, 0, image, path), [0])
        self.assertEqual(file(0, 1, image, path), [1, 10])
        self.assertEqual(file(0, 3, image, path), [3, 10, 20, 30])
        self.assertEqual(file(0, 4, image, path), [4, 10, 20, 30, 40])
        self.assertEqual(file(0, 5, image, path), [4, 10, 20, 30, 40])
        self.assertEqual(file(1, 2, image, path), [2, 20, 30])
        self.assertEqual(file(2, 16777216, image, path), [2, 30, 40])
        self.assertEqual(file(3, 1, image, path), [1, 40])
        self.assertEqual(file(4, 1, image, path), [0])
        self.assertEqual(file(5, 1, image, path), [0])
        self.assertEqual(file(2147483647, 16777216, image, path), [0])

    def test_a_file_at_the_end_of_the_image(self):
        disc = Disc([File(b"A.;1", values=pattern(SECTOR))])
        self.assertEqual(disc.top.members[0].place, disc.sectors - 1)
        for start in (0, 1, SECTOR - 1, SECTOR, SECTOR + 1, GREATEST):
            piece = pattern(SECTOR)[start:]
            self.assertEqual(file(start, MOST, disc.image, list(b"/A.;1")), [len(piece)] + piece)

    def test_piece_by_piece(self):
        image = self.disc(5000).image
        for most in (1000, 999, 2048, 4999, 5000):
            found = []
            for start in range(0, 5000, most):
                found += file(start, most, image, list(b"/B.;1"))[1:]
            self.assertEqual(found, pattern(5000))


class AsListed(DiscCase):
    """What list_all tells is held against what file hands out, whatever the builder says."""

    def lines(self, image):
        return bytes(list_all(MOST, image)[1:]).splitlines()

    def assert_found_as_listed(self, image):
        for line in self.lines(image):
            if line.endswith(b"/"):
                self.assertEqual(file(0, 0, image, list(line)), [-4])
                self.assertEqual(file(0, MOST, image, list(line[:-1])), [-4])
            else:
                path, size = line.rsplit(b" ", 1)
                found = file(0, MOST, image, list(path))
                self.assertEqual((found[0], len(found) - 1), (int(size), int(size)))
                self.assertEqual(file(0, MOST, image, list(line)), [-4])

    def test_many_files_and_folders(self):
        files = [File(name, k * 13 % 3000, place=k % 15) for k, name in enumerate(file_names(40))]
        members = [Folder(name, files[k:] + [Folder(b"ZZ", files[:k])]) for k, name in enumerate(folder_names(8))]
        disc = Disc(members + files[20:])
        self.assertLessEqual(len(disc.image), 100000)
        self.assertEqual(len(self.lines(disc.image)), 16 + 8 * 40 + 20)
        self.assert_found_as_listed(disc.image)

    def test_many_names_of_one_folder(self):
        disc = crowd(20, 12)
        self.assertEqual(len(self.lines(disc.image)), 20 + 20 * 12)
        self.assert_found_as_listed(disc.image)

    def test_something_of_everything(self):
        self.assert_found_as_listed(rich_disc().image)

    def test_the_last_of_16384(self):
        disc = crowd(32, 511)
        lines = self.lines(disc.image)
        self.assertEqual(len(lines), 16384)
        self.assertTrue(lines[-1].endswith(b" 0"))
        self.assertEqual(file(0, MOST, disc.image, list(lines[-1][:-2])), [0])
        self.assertEqual(file(0, MOST, disc.image, list(lines[-512])), [-4])


if __name__ == "__main__":
    unittest.main()
