import unittest

from discbuilder import SECTOR, Alias, Disc, File, Folder, both, high, low, put, record
from discimages.discs import look
from disccase import DiscCase, rich_disc

OTHER_NUMBERS_4 = (0, 1, 255, 256, 65536, 0x7FFFFFFF, 0x80000000, 0xFFFFFFFF)


class RecordFields(DiscCase):
    """Each field of a record, in each kind of record: its first two, a file's, a folder's."""

    def records(self):
        disc = rich_disc()
        below = disc.folders[1]
        places = [disc.top.record_at(k) for k in range(6)] + [below.record_at(k) for k in range(4)]
        return [(disc, at) for at in places]

    def assert_each_refused_with(self, at, values):
        for disc, start in self.records():
            if disc.image[start + at:start + at + len(values)] != values:
                with self.subTest(start=start - disc.top.place * SECTOR, values=values):
                    self.assert_refused_with(disc, start + at, values)

    def test_its_length(self):
        for length in (1, 2, 32, 33, 34, 35, 36, 37, 38, 39, 40, 44, 46, 100, 254, 255):
            self.assert_each_refused_with(0, [length])

    def test_a_length_of_0(self):
        self.assert_each_refused_with(0, [0])

    def test_the_0_behind_its_length(self):
        for value in (1, 2, 128, 255):
            self.assert_each_refused_with(1, [value])

    def test_its_place_one_way_only(self):
        for number in OTHER_NUMBERS_4:
            self.assert_each_refused_with(2, low(number, 4))
            self.assert_each_refused_with(6, high(number, 4))

    def test_its_bytes_one_way_only(self):
        # An empty file's bytes are both 0, so 0 is left to the ones that have another number.
        for number in OTHER_NUMBERS_4:
            self.assert_each_refused_with(10, low(number, 4))
            self.assert_each_refused_with(14, high(number, 4))

    def test_place_and_bytes_the_other_way_round(self):
        disc = rich_disc()
        for at, number in ((2, disc.top.place), (10, disc.top.size)):
            self.assert_refused_with(disc, disc.top.record_at(0) + at, high(number, 4) + low(number, 4))

    def test_other_flags(self):
        for flags in range(4, 256):
            self.assert_each_refused_with(25, [flags])

    def test_two_zeros(self):
        for at in (26, 27):
            for value in (1, 2, 128, 255):
                self.assert_each_refused_with(at, [value])

    def test_the_number_1(self):
        for number in (0, 2, 255, 256, 257, 65535):
            self.assert_each_refused_with(28, both(number, 2))
            self.assert_each_refused_with(28, low(number, 2))
            self.assert_each_refused_with(30, high(number, 2))
        self.assert_each_refused_with(28, high(1, 2) + low(1, 2))

    def test_how_long_its_name_is(self):
        for length in (0, 1, 2, 3, 4, 5, 6, 7, 9, 10, 11, 31, 32, 222, 255):
            self.assert_each_refused_with(32, [length])

    def test_hidden_or_not(self):
        for disc, start in self.records():
            flags = disc.image[start + 25] ^ 1
            self.assert_still_right_with(disc, start + 25, [flags])

    def test_the_0_behind_a_name_of_even_length(self):
        disc = Disc([File(b"A.;1"), Folder(b"BB")])
        for k in (2, 3):
            for value in (1, 32, 255):
                self.assert_refused_with(disc, disc.top.end_at(k) - 1, [value])

    def test_no_0_behind_a_name_of_odd_length(self):
        # Two bytes more, zeros both, would keep the next record at an even place.
        for more in (1, 2):
            values = record(b"AB.;1", 0, 0, 0) + [0] * more
            values[0] += more
            disc = Disc([File(b"AB.;1", 0, place=0)])
            self.assert_refused_with(disc, disc.top.record_at(2), values)

    def test_nothing_else_behind_the_name(self):
        for name in (b"A.;1", b"AB.;1"):
            for more in ([0], [0, 0], [82, 82, 4, 1], [0] * 100):
                values = record(name, 0, 0, 0) + more
                values[0] += len(more)
                disc = Disc([File(name, 0, place=0)])
                self.assert_refused_with(disc, disc.top.record_at(2), values)

    def test_no_0_behind_a_name_of_even_length(self):
        values = record(b"A.;1", 0, 0, 0)[:-1]
        values[0] -= 1
        disc = Disc([File(b"A.;1", 0, place=0)])
        self.assert_refused_with(disc, disc.top.record_at(2), values)

    def test_a_file_called_a_folder_and_the_other_way(self):
        disc = Disc([File(b"A.;1", SECTOR), Folder(b"B")])
        self.assert_refused_with(disc, disc.top.record_at(2) + 25, [2])
        self.assert_refused_with(disc, disc.top.record_at(3) + 25, [0])


class PlaceOfAFolder(DiscCase):
    def assert_size_is_refused(self, size):
        """Told so in every place that tells it."""
        disc = Disc([Folder(b"A")], spare=3)
        below = disc.folders[1]
        image = list(disc.image)
        put(image, disc.top.record_at(2) + 10, both(size, 4))
        put(image, below.record_at(0) + 10, both(size, 4))
        self.assert_refused(image)

    def test_not_whole_sectors(self):
        for size in (1, 34, 68, 1024, 2047, 2049, 4095):
            self.assert_size_is_refused(size)

    def test_no_bytes(self):
        self.assert_size_is_refused(0)

    def test_very_many_bytes(self):
        for size in (0x7FFFF800, 0x80000000, 0xFFFFF800):
            self.assert_size_is_refused(size)

    def test_no_bytes_of_the_top_folder(self):
        disc = Disc()
        image = list(disc.image)
        for at in (16 * SECTOR + 156, disc.top.record_at(0), disc.top.record_at(1)):
            put(image, at + 10, both(0, 4))
        self.assert_refused(image)

    def test_a_top_folder_of_a_part_of_a_sector(self):
        for size in (68, 2047, 2049):
            disc = Disc(spare=1)
            image = list(disc.image)
            for at in (16 * SECTOR + 156, disc.top.record_at(0), disc.top.record_at(1)):
                put(image, at + 10, both(size, 4))
            self.assert_refused(image)

    def test_a_folder_that_leaves_the_image(self):
        below = Folder(b"A", [File(b"X.;1", 0, place=0), File(b"Y.;1", 0, place=0)], breaks=(2, 3))
        disc = Disc([below])
        self.assertEqual((below.place, below.size, disc.sectors), (21, 3 * SECTOR, 24))
        self.assert_right(disc, 2, 2)
        for sectors in (21, 22, 23):
            image = disc.image[:sectors * SECTOR]
            put(image, 16 * SECTOR + 80, both(sectors, 4))
            self.assert_refused(image)

    def test_a_folder_that_begins_at_or_behind_the_end(self):
        for place in (22, 23, 0x7FFFFFFF, 0x80000000, 0x200015, 0xFFFFFFFF):
            disc = Disc([Folder(b"A")])
            image = list(disc.image)
            put(image, disc.top.record_at(2) + 2, both(place, 4))
            put(image, disc.entry_at(2, disc.lower_place) + 2, low(place, 4))
            put(image, disc.entry_at(2, disc.higher_place) + 2, high(place, 4))
            put(image, disc.folders[1].record_at(0) + 2, both(place, 4))
            self.assert_refused(image)


class Sectors(DiscCase):
    def test_zeros_behind_the_last_record(self):
        disc = Disc([Folder(b"A", [File(b"X.;1")])])
        for folder in disc.folders:
            end = folder.end_at(len(folder.members) + 1)
            for at in range(end, (folder.place + 1) * SECTOR):
                image = list(disc.image)
                image[at] = 1
                self.assert_refused(image)

    def test_zeros_behind_the_last_record_of_each_sector(self):
        below = Folder(b"A", [File(b"X.;1"), File(b"Y.;1")], breaks=(2, 3))
        disc = Disc([below])
        for k in (1, 2, 3):
            end = below.end_at(k)
            for at in (end + 1, end + 33, (end // SECTOR + 1) * SECTOR - 1):
                self.assert_refused_with(disc, at, [255])

    def test_a_record_behind_zeros(self):
        disc = Disc([File(b"A.;1", 0, place=0)])
        for gap in (1, 2, 34):
            self.assert_refused_with(disc, disc.top.end_at(2) + gap, record(b"B.;1", 0, 0, 0))

    def test_a_record_behind_the_last_one_is_one_more(self):
        disc = Disc([File(b"A.;1", 0, place=0)])
        image = put(list(disc.image), disc.top.end_at(2), record(b"B.;1", 0, 0, 0))
        self.assertEqual(look(image)[:4], [0, 21, 1, 2])

    def longer_folder(self, sectors):
        """A folder of so many sectors, whose sectors but the first are zeros."""
        below = Folder(b"A")
        below.size = sectors * SECTOR
        return below

    def test_a_sector_without_a_record(self):
        for sectors in (2, 3):
            self.assert_refused(Disc([self.longer_folder(sectors)]).image)

    def test_a_top_folder_with_a_sector_without_a_record(self):
        top = self.longer_folder(2)
        top.name = b"\0"
        self.assert_refused(Disc(top=top).image)

    def test_a_sector_without_a_record_between(self):
        below = Folder(b"A", [File(b"X.;1"), File(b"Y.;1")], breaks=(2, 3))
        disc = Disc([below])
        self.assert_refused_with(disc, below.record_at(2), [0] * 38)

    def test_a_first_sector_without_a_record(self):
        disc = Disc([Folder(b"A")])
        self.assert_refused_with(disc, disc.folders[1].record_at(0), [0] * 68)

    def test_a_record_across_two_sectors(self):
        # 34 and 34, then 45 of 44 bytes: full. With a longer last name its record goes on in the next sector.
        names = [b"NAME%03d.;1" % k for k in range(45)]
        below = Folder(b"A", [File(name, 0, place=0) for name in names])
        self.assertEqual(below.size, SECTOR)
        below.size = 2 * SECTOR
        disc = Disc([below])
        image = list(disc.image)
        long_record = record(b"NAME044ABC.;1", 0, 0, 0)
        put(image, below.record_at(46), long_record)
        self.assertGreater(below.record_at(46) + len(long_record), (below.place + 1) * SECTOR)
        self.assert_refused(image)
        # Nor with a right record in the second sector.
        put(image, (below.place + 1) * SECTOR, record(b"Z.;1", 0, 0, 0))
        self.assert_refused(image)

    def filled_disc(self, spare):
        """A disc whose top folder's one sector has 10 bytes left behind its last record."""
        names = [b"A.;1", b"A123.;1"] + [b"NAME%03d.;1" % k for k in range(43)]
        disc = Disc([File(name, 0, place=0) for name in names], spare=spare)
        self.assertEqual(disc.top.end_at(46), (disc.top.place + 1) * SECTOR - 10)
        self.assertEqual(disc.sectors, disc.top.place + 1 + spare)
        self.assert_right(disc, 1, 45)
        return disc

    def test_a_right_record_that_goes_on_behind_the_folder(self):
        disc = self.filled_disc(spare=1)
        for name in (b"Z.;1", b"Z" * 30 + b".;1"):
            self.assert_refused_with(disc, disc.top.end_at(46), record(name, 0, 0, 0))

    def test_a_right_record_that_ends_in_another_one(self):
        names = [b"NAME%03d.;1" % k for k in range(44)]
        folder = Folder(b"Z" * 11 + b"0")
        last = File(b"_" * 12 + b".;1", 0, place=0)
        disc = Disc([File(name, 0, place=0) for name in names] + [folder, last])
        self.assert_right(disc, 2, 45)
        across = record(folder.name, folder.place, folder.size, 2)
        behind = record(last.name, 0, 0, 0)
        # The sign 0 and a 0 that end the one are the length and the 0 that begin the other.
        self.assertEqual(across[-2:], behind[:2])
        second_sector = (disc.top.place + 1) * SECTOR
        self.assertEqual(disc.top.end_at(45) + len(across), second_sector + 2)
        values = across + behind[2:] + [0] * (SECTOR - len(behind))
        self.assert_refused_with(disc, disc.top.end_at(45), values)

    def test_the_begin_of_a_record_at_the_images_end(self):
        disc = self.filled_disc(spare=0)
        for length in (1, 9, 10, 11, 32, 33, 34, 38, 255):
            for values in ([length], [length] + [0] * 9, [length] * 10):
                self.assert_refused_with(disc, disc.top.end_at(46), values)

    def test_a_record_that_leaves_the_image(self):
        names = [b"NAME%03d.;1" % k for k in range(45)]
        disc = Disc([File(name, 0, place=0) for name in names])
        self.assertEqual(disc.top.place, disc.sectors - 1)
        for length in (46, 100, 255):
            self.assert_refused_with(disc, disc.top.record_at(46), [length])

    def test_the_begin_of_a_record_at_the_sectors_end(self):
        disc = Disc([File(b"A.;1", 0, place=0)])
        for values in ([34], [38, 0], [255] * 33):
            self.assert_refused_with(disc, disc.top.end_at(2), values)
            self.assert_refused_with(disc, (disc.top.place + 1) * SECTOR - len(values), values)


class FirstTwoRecords(DiscCase):
    """What they say of the folder itself and of the one it is in; told rightly both ways."""

    def links(self):
        for number in (0, 1, 4):
            for k in (0, 1):
                disc = rich_disc()
                yield disc, disc.folders[number], k

    def test_their_place(self):
        for disc, folder, k in self.links():
            right = folder.place if k == 0 else folder.above.place
            for place in {0, 16, right - 1, right + 1, disc.sectors, 0xFFFFFFFF}:
                self.assert_refused_with(disc, folder.record_at(k) + 2, both(place, 4))

    def test_the_one_for_the_other(self):
        disc = rich_disc()
        below = disc.folders[1]
        self.assert_refused_with(disc, below.record_at(0) + 2, both(below.above.place, 4))
        self.assert_refused_with(disc, below.record_at(1) + 2, both(below.place, 4))

    def test_the_top_one_for_the_one_it_is_in(self):
        disc = rich_disc()
        inner = disc.folders[4]
        self.assertEqual(inner.name, b"IN")
        self.assert_refused_with(disc, inner.record_at(1) + 2, both(disc.top.place, 4))

    def test_their_bytes(self):
        for disc, folder, k in self.links():
            for size in (0, 1, 34, 2047, 2049, 4096, 0xFFFFFFFF):
                self.assert_refused_with(disc, folder.record_at(k) + 10, both(size, 4))

    def test_the_bytes_of_a_larger_one(self):
        below = Folder(b"A", [Folder(b"B", [File(b"X.;1")], breaks=(1, 2))])
        disc = Disc([below, File(b"Z.;1")])
        inner = disc.folders[2]
        self.assertEqual(inner.size, 3 * SECTOR)
        self.assert_refused_with(disc, inner.record_at(0) + 10, both(SECTOR, 4))
        self.assert_refused_with(disc, inner.record_at(1) + 10, both(3 * SECTOR, 4))

    def test_they_are_folders(self):
        for disc, folder, k in self.links():
            for flags in (0, 1):
                self.assert_refused_with(disc, folder.record_at(k) + 25, [flags])

    def test_their_names(self):
        for disc, folder, k in self.links():
            for value in range(256):
                if value != k:
                    self.assert_refused_with(disc, folder.record_at(k) + 33, [value])

    def test_a_longer_name(self):
        for k in (0, 1):
            for name in (b"\0\0", b"\1\0", b"\0\0\0", b"\1\1\1"):
                disc = Disc([Folder(b"A")])
                below = disc.folders[1]
                target = (below, below.above)[k]
                rest = record(b"\1", below.above.place, below.above.size, 2) if k == 0 else []
                values = record(name, target.place, target.size, 2) + rest
                self.assert_refused_with(disc, below.record_at(k), values)

    def test_changed_for_one_another(self):
        disc = Disc([Folder(b"A")])
        for folder in disc.folders:
            start = folder.record_at(0)
            values = disc.image[start + 34:start + 68] + disc.image[start:start + 34]
            self.assert_refused_with(disc, start, values)

    def test_only_the_first(self):
        for disc in (Disc(), Disc([Folder(b"A")])):
            self.assert_refused_with(disc, disc.folders[-1].record_at(1), [0] * 34)

    def test_only_the_second(self):
        disc = Disc([Folder(b"A")])
        start = disc.folders[1].record_at(0)
        self.assert_refused_with(disc, start, disc.image[start + 34:start + 68] + [0] * 34)

    def test_a_third_one(self):
        disc = Disc([Folder(b"A")])
        below = disc.folders[1]
        for name in (b"\0", b"\1"):
            self.assert_refused_with(disc, below.end_at(1), record(name, below.place, below.size, 2))

    def test_a_file_in_their_place(self):
        disc = Disc([Folder(b"A")])
        start = disc.folders[1].record_at(0)
        self.assert_refused_with(disc, start, record(b"A.;1", 0, 0, 0) + [0] * 30)


class SharedFolders(DiscCase):
    def test_a_folder_that_stands_in_two_others(self):
        # It can tell but one of them as the folder it is in.
        inner = Folder(b"X")
        disc = Disc([Folder(b"A", [inner]), Folder(b"B", [Alias(b"X", inner)])])
        self.assert_refused(disc.image)

    def test_a_folder_that_holds_itself(self):
        below = Folder(b"A", [Alias(b"X", None)])
        below.members[0].folder = below
        self.assert_refused(Disc([below], most_folders=8).image)

    def test_a_folder_that_holds_the_top_one(self):
        top = Folder(b"\0", [Folder(b"A", [Alias(b"X", None)])])
        top.members[0].members[0].folder = top
        self.assert_refused(Disc(top=top, most_folders=8).image)


if __name__ == "__main__":
    unittest.main()
