import unittest

from discbuilder import MAIN, SECTOR, Disc, File, Folder, both, entry, folder_names, high, low, one_folder_as, put
from discimages.discs import look
from disccase import DiscCase, rich_disc

OTHER_NUMBERS_2 = (0, 1, 2, 3, 255, 256, 512, 0x7FFF, 0x8000, 0xFFFF)
OTHER_NUMBERS_4 = (0, 1, 16, 255, 256, 65536, 0x7FFFFFFF, 0x80000000, 0xFFFFFFFF)


def tables(disc):
    return ((disc.lower_place, low), (disc.higher_place, high))


def write_tables(disc, instances, which=(0, 1), make_entry=entry):
    """The disc's image with both tables, or one of them, written anew; their length is told anew too."""
    image = list(disc.image)
    for k in which:
        place, write = tables(disc)[k]
        table = []
        for name, folder, above in instances:
            table += make_entry(name, folder.place, above, write)
        put(image, place * SECTOR, table)
        put(image, MAIN + 132, both(len(table), 4))
    return image


class Entries(DiscCase):
    """Each field of each entry, in each of the two tables."""

    def entries(self):
        disc = rich_disc()
        for place, write in tables(disc):
            for number in range(1, len(disc.instances) + 1):
                yield disc, disc.entry_at(number, place), disc.instances[number - 1], write

    def test_how_long_the_name_is(self):
        for disc, at, (name, folder, above), write in self.entries():
            for length in {0, 1, 2, 3, 4, 255} - {len(name)}:
                self.assert_refused_with(disc, at, [length])

    def test_the_0_behind_it(self):
        for disc, at, instance, write in self.entries():
            for value in (1, 2, 255):
                self.assert_refused_with(disc, at + 1, [value])

    def test_the_place(self):
        for disc, at, (name, folder, above), write in self.entries():
            for place in set(OTHER_NUMBERS_4) | {folder.place - 1, folder.place + 1}:
                self.assert_refused_with(disc, at + 2, write(place, 4))

    def test_the_place_the_other_way_round(self):
        for disc, at, (name, folder, above), write in self.entries():
            other = high if write is low else low
            self.assert_refused_with(disc, at + 2, other(folder.place, 4))

    def test_the_number_of_the_folder_it_is_in(self):
        for disc, at, (name, folder, above), write in self.entries():
            for number in set(OTHER_NUMBERS_2) - {above}:
                self.assert_refused_with(disc, at + 6, write(number, 2))

    def test_the_number_the_other_way_round(self):
        for disc, at, (name, folder, above), write in self.entries():
            other = high if write is low else low
            self.assert_refused_with(disc, at + 6, other(above, 2))

    def test_the_name(self):
        for disc, at, (name, folder, above), write in self.entries():
            for k in range(len(name)):
                for value in {0, 1, 32, 65, 90, name[k] ^ 32, name[k] ^ 128} - {name[k]}:
                    self.assert_refused_with(disc, at + 8 + k, [value])

    def test_the_0_behind_a_name_of_odd_length(self):
        for disc, at, (name, folder, above), write in self.entries():
            if len(name) % 2 == 1:
                for value in (1, 32, 255):
                    self.assert_refused_with(disc, at + 8 + len(name), [value])

    def assert_tables_refused(self, make_entry):
        """Both tables, and either one, written anew by a function that makes their entries."""
        for which in ((0, 1), (0,), (1,)):
            disc = rich_disc()
            image = write_tables(disc, disc.instances, which, make_entry)
            self.assertNotEqual(image, disc.image)
            self.assert_refused(image)

    def test_no_0_behind_a_name_of_odd_length(self):
        def without(name, place, above, write):
            return [len(name), 0] + write(place, 4) + write(above, 2) + list(name)
        self.assert_tables_refused(without)

    def test_a_0_behind_a_name_of_even_length(self):
        def with_one(name, place, above, write):
            return [len(name), 0] + write(place, 4) + write(above, 2) + list(name) + [0]
        self.assert_tables_refused(with_one)

    def test_numbered_from_0_on(self):
        def lower(name, place, above, write):
            return entry(name, place, above - 1, write)
        self.assert_tables_refused(lower)

    def test_the_top_one_by_other_names(self):
        for top_name in (b"\1", b"A", b"\0\0", b""):
            def renamed(name, place, above, write):
                return entry(top_name if name == b"\0" else name, place, above, write)
            self.assert_tables_refused(renamed)


    def test_the_top_one_by_another_name_in_its_record_too(self):
        for value in (1, 65):
            def renamed(name, place, above, write):
                return entry(bytes([value]) if name == b"\0" else name, place, above, write)
            disc = rich_disc()
            image = write_tables(disc, disc.instances, make_entry=renamed)
            self.assert_refused(put(image, MAIN + 156 + 33, [value]))


class OrderAndLength(DiscCase):
    def broad_disc(self):
        first = Folder(b"A", [Folder(b"X", [Folder(b"P")]), Folder(b"Y")])
        second = Folder(b"B", [Folder(b"V"), Folder(b"W", [Folder(b"Q")])])
        return Disc([first, second, File(b"C.;1", 3)])

    def test_level_by_level_then_by_the_numbers_of_those_they_are_in(self):
        disc = self.broad_disc()
        told = [(name, above) for name, folder, above in disc.instances]
        expected = [(b"\0", 1), (b"A", 1), (b"B", 1), (b"X", 2), (b"Y", 2), (b"V", 3), (b"W", 3), (b"P", 4), (b"Q", 7)]
        self.assertEqual(told, expected)
        self.assert_right(disc, 9, 1)
        self.assert_same_answers(write_tables(disc, disc.instances), disc.image)

    def test_each_two_neighbours_changed(self):
        disc = self.broad_disc()
        for k in range(len(disc.instances) - 1):
            wrong = list(disc.instances)
            wrong[k:k + 2] = [wrong[k + 1], wrong[k]]
            for which in ((0, 1), (0,), (1,)):
                self.assert_refused(write_tables(disc, wrong, which))

    def test_by_name_alone_within_a_level(self):
        # V and W, in B, come behind X and Y, in A. The numbers are made to fit the wrong order.
        disc = self.broad_disc()
        named = {name: (name, folder) for name, folder, above in disc.instances}
        order = [(b"\0", 1), (b"A", 1), (b"B", 1), (b"V", 3), (b"W", 3), (b"X", 2), (b"Y", 2), (b"Q", 5), (b"P", 6)]
        self.assert_refused(write_tables(disc, [named[name] + (above,) for name, above in order]))

    def test_each_folder_behind_the_one_it_is_in(self):
        disc = self.broad_disc()
        named = {name: (name, folder) for name, folder, above in disc.instances}
        order = [(b"\0", 1), (b"A", 1), (b"X", 2), (b"P", 3), (b"Y", 2), (b"B", 1), (b"V", 6), (b"W", 6), (b"Q", 8)]
        self.assert_refused(write_tables(disc, [named[name] + (above,) for name, above in order]))

    def test_one_entry_missing(self):
        disc = self.broad_disc()
        for k in range(len(disc.instances)):
            wrong = disc.instances[:k] + disc.instances[k + 1:]
            self.assert_refused(write_tables(disc, wrong))

    def test_no_entries(self):
        self.assert_refused(write_tables(self.broad_disc(), []))
        self.assert_refused(write_tables(Disc(), []))

    def test_one_entry_twice(self):
        disc = self.broad_disc()
        for k in range(len(disc.instances)):
            wrong = disc.instances[:k] + [disc.instances[k]] + disc.instances[k:]
            self.assert_refused(write_tables(disc, wrong))

    def test_a_file_among_them(self):
        disc = self.broad_disc()
        listed = disc.top.members[2]
        self.assert_refused(write_tables(disc, disc.instances + [(listed.name, listed, 1)]))

    def test_something_behind_the_last_entry(self):
        disc = self.broad_disc()
        for more in ([0], [0, 0], [0] * 8, [1], [32] * 10, [0] * (SECTOR - disc.table_size)):
            image = list(disc.image)
            for place, write in tables(disc):
                put(image, place * SECTOR + disc.table_size, more)
            put(image, MAIN + 132, both(disc.table_size + len(more), 4))
            self.assert_refused(image)

    def test_one_table_right_and_the_other_empty(self):
        disc = self.broad_disc()
        for place, write in tables(disc):
            self.assert_refused_with(disc, place * SECTOR, [0] * disc.table_size)

    def test_tables_of_several_sectors(self):
        disc = Disc(one_folder_as([b"N" * 29 + name for name in folder_names(60)]))
        self.assertEqual(disc.table_size, 10 + 60 * 40)
        self.assertEqual(disc.higher_place, disc.lower_place + 2)
        self.assert_right(disc, 61, 0)
        for number in (52, 53, 61):
            for place, write in tables(disc):
                self.assert_refused_with(disc, disc.entry_at(number, place) + 8 + 30, [90])


    def test_numbers_above_255(self):
        disc = Disc(one_folder_as(folder_names(300), [Folder(b"X")]))
        self.assertEqual(disc.instances[-1][2], 301)
        self.assert_right(disc, 601, 0)
        for place, write in tables(disc):
            at = disc.entry_at(601, place) + 6
            for number in (300, 302, 301 - 256, 301 % 257, 301 + 256):
                self.assert_refused_with(disc, at, write(number, 2))


class TablesInTheImage(DiscCase):
    def moved_to_the_end(self, disc):
        """The disc's image with either table once more behind all else, and told to be there."""
        table_sectors = disc.higher_place - disc.lower_place
        for at, place, write in ((140, disc.lower_place, low), (148, disc.higher_place, high)):
            image = disc.image + disc.image[place * SECTOR:(place + table_sectors) * SECTOR]
            put(image, MAIN + 80, both(disc.sectors + table_sectors, 4))
            yield put(image, MAIN + at, write(disc.sectors, 4))

    def test_a_table_that_ends_just_at_the_end(self):
        # 10 for the top one, 10 for each name of two, 18 for the last: 2048 together.
        disc = Disc(one_folder_as(folder_names(202) + [b"__LONGNAME"]))
        self.assertEqual(disc.table_size, SECTOR)
        for image in self.moved_to_the_end(disc):
            self.assertEqual(look(image)[:4], [0, disc.sectors + 1, 204, 0])

    def test_a_table_that_is_told_to_go_on_behind_the_end(self):
        disc = Disc(one_folder_as(folder_names(202) + [b"__LONGNAME"]))
        for image in self.moved_to_the_end(disc):
            for more in (1, 10, SECTOR):
                self.assert_refused(put(list(image), MAIN + 132, both(SECTOR + more, 4)))

    def test_a_table_that_is_cut_by_the_end(self):
        disc = Disc(one_folder_as(folder_names(202) + [b"__LONGNAMES"]))
        self.assertEqual(disc.table_size, SECTOR + 2)
        for image in self.moved_to_the_end(disc):
            self.assertEqual(look(image)[:4], [0, disc.sectors + 2, 204, 0])
            cut = image[:-SECTOR]
            put(cut, MAIN + 80, both(disc.sectors + 1, 4))
            self.assert_refused(cut)

    def test_a_table_at_or_behind_the_end(self):
        disc = rich_disc()
        for place in (disc.sectors, disc.sectors + 1, 0x7FFFFFFF, 0x80000000, 0xFFFFFFFF):
            self.assert_refused_with(disc, MAIN + 140, low(place, 4))
            self.assert_refused_with(disc, MAIN + 148, high(place, 4))


if __name__ == "__main__":
    unittest.main()
