import unittest

from discbuilder import MAIN, SECTOR, Alias, Disc, File, Folder, both, chain, crowd, file_names, folder_names, put
from discbuilder import stacked_crowd
from disccase import DiscCase


class Depth(DiscCase):
    def test_8_deep(self):
        self.assert_right(chain(8), 8, 0)

    def test_files_in_a_folder_8_deep(self):
        self.assert_right(chain(8, [File(b"A.;1", 3), File(b"B.;1")]), 8, 2)

    def test_9_deep(self):
        self.assert_refused(chain(9).image)

    def test_9_deep_beside_others(self):
        deep = [Folder(b"Z")]
        for k in range(7):
            deep = [Folder(b"A"), Folder(b"B", deep)]
        self.assert_refused(Disc(deep).image)
        self.assert_right(Disc(deep[1].members), 14, 0)

    def test_a_top_folder_that_holds_itself_is_too_deep(self):
        top = Folder(b"\0", [Alias(b"A", None)])
        top.members[0].folder = top
        self.assert_refused(Disc(top=top, most_folders=8).image)
        self.assert_refused(Disc(top=top, most_folders=9).image)

    def test_a_top_folder_that_holds_itself_very_often_ends_too(self):
        names = folder_names(26)
        top = Folder(b"\0", [Alias(name, None) for name in names], breaks=range(2, 28))
        for member in top.members:
            member.folder = top
        self.assert_refused(Disc(top=top).image)


class FolderNames(DiscCase):
    def test_lengths_that_fit(self):
        for length in (1, 2, 30, 31):
            with self.subTest(length=length):
                self.assert_right(Disc([Folder(b"N" * length)]), 2, 0)

    def test_a_length_of_32(self):
        self.assert_refused(Disc([Folder(b"N" * 32)]).image)
        self.assert_refused(Disc([Folder(b"N" * 33)]).image)

    def test_a_length_of_0(self):
        # The record of a name of 1, with its length made 0 there and in both tables.
        disc = Disc([Folder(b"\0")])
        image = list(disc.image)
        put(image, disc.top.record_at(2) + 32, [0])
        for place in (disc.lower_place, disc.higher_place):
            put(image, disc.entry_at(2, place), [0])
        put(image, MAIN + 132, both(disc.table_size - 2, 4))
        self.assert_refused(image)

    def test_every_byte_as_a_name_and_within_one(self):
        signs = b"ABCDEFGHIJKLMNOPQRSTUVWXYZ0123456789_"
        for value in range(256):
            for name in (bytes([value]), b"A" + bytes([value]) + b"B"):
                disc = Disc([Folder(name)])
                if value in signs:
                    self.assert_right(disc, 2, 0)
                else:
                    self.assert_refused(disc.image)

    def test_names_that_only_files_may_have(self):
        for name in (b"A.", b"A;1", b"A.;1", b".", b";1"):
            with self.subTest(name=name):
                self.assert_refused(Disc([Folder(name)]).image)


class FileNames(DiscCase):
    def assert_name_fits(self, name):
        with self.subTest(name=name):
            self.assert_right(Disc([File(name, 3)]), 1, 1)

    def assert_name_is_refused(self, name):
        with self.subTest(name=name):
            self.assert_refused(Disc([File(name, 3)]).image)

    def test_1_sign(self):
        self.assert_name_fits(b"A.;1")
        self.assert_name_fits(b".A;1")

    def test_30_signs_with_the_point_anywhere(self):
        for k in range(31):
            self.assert_name_fits(b"N" * k + b"." + b"N" * (30 - k) + b";1")

    def test_every_length_between(self):
        for k in range(1, 31):
            self.assert_name_fits(b"N" * k + b".;1")

    def test_31_signs(self):
        for k in (0, 1, 15, 30, 31):
            self.assert_name_is_refused(b"N" * k + b"." + b"N" * (31 - k) + b";1")

    def test_no_sign(self):
        for name in (b".;1", b";1", b".", b"1", b";"):
            self.assert_name_is_refused(name)

    def test_no_point_or_two(self):
        for name in (b"A;1", b"AB;1", b"A..;1", b".A.;1", b"A.B.C;1", b"..;1", b"..A;1"):
            self.assert_name_is_refused(name)

    def test_other_ends(self):
        wrong = [b"A.", b"A.;", b"A.1", b"A.;2", b"A.;11", b"A.;01", b"A.;1;1", b"A.:1", b";1A.", b"A;1.", b"A.;1 "]
        for name in wrong:
            self.assert_name_is_refused(name)

    def test_every_byte_in_each_part(self):
        signs = b"ABCDEFGHIJKLMNOPQRSTUVWXYZ0123456789_"
        for value in range(256):
            sign = bytes([value])
            for name in (sign + b".;1", b"." + sign + b";1", b"A" + sign + b"B.C;1", b"A.B" + sign + b";1"):
                if value in signs:
                    self.assert_name_fits(name)
                else:
                    self.assert_name_is_refused(name)

    def test_a_name_that_a_folder_may_have(self):
        self.assert_name_is_refused(b"A")
        self.assert_name_is_refused(b"README")


class Order(DiscCase):
    def assert_order(self, first, second):
        for make in (File, Folder):
            for other in (File, Folder):
                names = [name if kind is Folder else name + b".;1" for kind, name in ((make, first), (other, second))]
                if names[0] < names[1]:
                    with self.subTest(names=names):
                        right = [make(names[0]), other(names[1])]
                        files = [member for member in right if isinstance(member, File)]
                        self.assert_right(Disc(right), 3 - len(files), len(files))
                        self.assert_refused(Disc([other(names[1]), make(names[0])]).image)

    def test_by_their_bytes(self):
        for first, second in ((b"A", b"B"), (b"0", b"9"), (b"9", b"A"), (b"Z", b"_"), (b"AZ", b"B"), (b"A1", b"AA")):
            self.assert_order(first, second)

    def test_the_shorter_one_first(self):
        for first, second in ((b"A", b"A0"), (b"A", b"AA"), (b"AB", b"ABC"), (b"ZZ", b"ZZ" + b"0" * 28)):
            self.assert_order(first, second)

    def test_the_whole_name_counts(self):
        # In each pair the bytes that decide are . or ; against a sign.
        pairs = [
            (b"A.;1", b"A0.;1"), (b"A.Z;1", b"A0.;1"), (b"A.B1;1", b"A.B;1"), (b"A.9;1", b"A.;1"),
            (b"A.;1", b"A.A;1"), (b"A.B;1", b"A.BC;1"), (b".A;1", b"0.;1"), (b"A.;1", b"AB.;1"),
        ]
        for first, second in pairs:
            with self.subTest(first=first, second=second):
                self.assert_right(Disc([File(first), File(second)]), 1, 2)
                self.assert_refused(Disc([File(second), File(first)]).image)

    def test_a_folder_before_a_file_that_begins_like_it(self):
        self.assert_right(Disc([Folder(b"A"), File(b"A.;1")]), 2, 1)
        self.assert_refused(Disc([File(b"A.;1"), Folder(b"A")]).image)

    def test_two_alike(self):
        self.assert_refused(Disc([File(b"A.;1"), File(b"A.;1")]).image)
        self.assert_refused(Disc([Folder(b"A"), Folder(b"A")]).image)
        self.assert_refused(Disc([File(b"A.;1"), File(b"B.;1"), File(b"B.;1"), File(b"C.;1")]).image)

    def test_alike_in_two_folders(self):
        self.assert_right(Disc([Folder(b"A", [File(b"A.;1")]), Folder(b"B", [File(b"A.;1"), Folder(b"B")])]), 4, 2)

    def test_across_two_sectors(self):
        names = file_names(60)
        self.assert_right(Disc([File(name) for name in names]), 1, 60)
        top = Disc([File(name) for name in names]).top
        last = [k for k in range(62) if top.offsets[k] < SECTOR][-1] - 2
        for other in (names[last], names[0]):
            wrong = list(names)
            wrong[last + 1] = other
            self.assert_refused(Disc([File(name) for name in wrong]).image)

    def test_in_a_folder_below(self):
        below = [File(b"B.;1"), File(b"A.;1")]
        self.assert_refused(Disc([Folder(b"A", [Folder(b"X", below)])]).image)

    def test_every_two_neighbours(self):
        names = folder_names(6)
        for k in range(5):
            wrong = names[:k] + [names[k + 1], names[k]] + names[k + 2:]
            self.assert_refused(Disc([Folder(name) for name in wrong]).image)


class HowMany(DiscCase):
    def test_16384(self):
        self.assert_right(crowd(32, 511), 33, 32 * 511)

    def test_one_file_more(self):
        self.assert_refused(crowd(32, 511, [File(b"ZZ.;1")]).image)

    def test_one_folder_more(self):
        self.assert_refused(crowd(32, 511, [Folder(b"ZZ")]).image)

    def test_16384_in_two_levels(self):
        self.assertEqual(8 + 8 * 23 + 8 * 23 * 88, 16384)
        self.assert_right(stacked_crowd(88), 1 + 8 + 8 * 23, 8 * 23 * 88)
        self.assert_refused(stacked_crowd(89).image)

    def test_many_more(self):
        self.assert_refused(crowd(40, 600).image)


class FilesInTheImage(DiscCase):
    def test_a_file_that_ends_just_at_the_end(self):
        for size in (1, 2047, 2048):
            with self.subTest(size=size):
                disc = Disc([File(b"A.;1", size)])
                self.assertEqual(disc.sectors, 22)
                self.assert_right(disc, 1, 1)

    def test_one_byte_behind_the_end(self):
        disc = Disc([File(b"A.;1", 2049, place=21)], spare=1)
        self.assertEqual(disc.sectors, 22)
        self.assert_refused(disc.image)

    def test_the_whole_image_as_a_file(self):
        self.assert_right(Disc([File(b"A.;1", 21 * SECTOR, place=0)]), 1, 1)
        self.assert_refused(Disc([File(b"A.;1", 21 * SECTOR + 1, place=0)]).image)

    def test_a_file_that_begins_at_or_behind_the_end(self):
        for place in (21, 22, 0x7FFFFFFF, 0x80000000, 0xFFFFFFFF):
            with self.subTest(place=place):
                self.assert_refused(Disc([File(b"A.;1", 1, place=place)]).image)

    def test_an_empty_file_in_the_image_or_just_at_its_end(self):
        for place in (0, 16, 20, 21):
            for flags in (0, 1):
                with self.subTest(place=place, flags=flags):
                    disc = Disc([File(b"A.;1", 0, place=place, flags=flags)])
                    self.assertEqual(disc.sectors, 21)
                    self.assert_right(disc, 1, 1)

    def test_an_empty_file_behind_the_end(self):
        for place in (22, 23, 65536, 0x200000, 0x200015, 0x7FFFFFFF, 0x80000000, 0xFFFFFFFF):
            for flags in (0, 1):
                with self.subTest(place=place, flags=flags):
                    disc = Disc([File(b"A.;1", 0, place=place, flags=flags)])
                    self.assertEqual(disc.sectors, 21)
                    self.assert_refused(disc.image)

    def test_an_empty_file_in_a_folder_below(self):
        for place, is_right in ((22, True), (23, False), (0xFFFFFFFF, False)):
            with self.subTest(place=place):
                disc = Disc([Folder(b"A", [File(b"X.;1", 3, place=0), File(b"Y.;1", 0, place=place)])])
                self.assertEqual(disc.sectors, 22)
                if is_right:
                    self.assert_right(disc, 2, 2)
                else:
                    self.assert_refused(disc.image)

    def test_a_file_with_very_many_bytes(self):
        for size in (0x7FFFFFFF, 0x80000000, 0xFFFFFFFF):
            with self.subTest(size=size):
                self.assert_refused(Disc([File(b"A.;1", size, place=0)]).image)

    def test_place_and_bytes_that_wrap_round_in_four_bytes(self):
        self.assert_refused(Disc([File(b"A.;1", 2048, place=0x200000)]).image)
        self.assert_refused(Disc([File(b"A.;1", 0xFFFFF800, place=1)]).image)

    def test_a_file_in_a_folder_below(self):
        below = Folder(b"A", [File(b"X.;1", 2049, place=21)])
        disc = Disc([below])
        self.assertEqual(disc.sectors, 22)
        self.assert_refused(disc.image)

    def test_a_hidden_file(self):
        self.assert_refused(Disc([File(b"A.;1", 1, place=21, flags=1)]).image)


if __name__ == "__main__":
    unittest.main()
