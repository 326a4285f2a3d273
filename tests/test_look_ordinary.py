import unittest

from discbuilder import MAIN, SECTOR, Alias, Disc, File, Folder, both, file_names, folder_names, put
from discimages.discs import look
from disccase import DiscCase, rich_disc


class OrdinaryImages(DiscCase):
    def test_only_the_top_folder_number_by_number(self):
        disc = Disc(name=b"DISC")
        self.assertEqual(disc.sectors, 21)
        self.assertEqual(look(disc.image), [0, 21, 1, 0, 68, 73, 83, 67] + [0] * 28)

    def test_files_in_the_top_folder(self):
        self.assert_right(Disc([File(b"A.;1", 1), File(b"B.TXT;1", 5000), File(b"C.;1", 2048)]), 1, 3)

    def test_folders_in_folders(self):
        first = Folder(b"A", [Folder(b"X", [File(b"F.;1", 3)]), Folder(b"Y")])
        second = Folder(b"B", [Folder(b"V"), Folder(b"W", [Folder(b"U", [File(b"G.;1", 4)])])])
        self.assert_right(Disc([first, second, File(b"C.;1", 7)]), 8, 3)

    def test_a_folder_of_several_sectors(self):
        below = Folder(b"MANY", [File(name) for name in file_names(150)])
        self.assertEqual(below.size, 3 * SECTOR)
        self.assert_right(Disc([below]), 2, 150)

    def test_a_top_folder_of_several_sectors(self):
        disc = Disc([Folder(name) for name in folder_names(3)] + [File(b"Z" + name) for name in file_names(120)])
        self.assertEqual(disc.top.size, 3 * SECTOR)
        self.assert_right(disc, 4, 120)

    def test_a_sector_may_end_before_it_is_full(self):
        below = Folder(b"B", [File(b"X.;1"), File(b"Y.;1")], breaks=(1, 2, 3))
        self.assertEqual(below.size, 4 * SECTOR)
        self.assert_right(Disc([below]), 2, 2)

    def test_a_sector_may_be_full_to_its_end(self):
        # 34 and 34, then 45 of 44 bytes: 2048 together.
        names = [b"NAMES" + name for name in file_names(45)]
        disc = Disc([File(name) for name in names])
        self.assertEqual(disc.top.end_at(46), (disc.top.place + 1) * SECTOR)
        self.assertEqual(disc.top.size, SECTOR)
        self.assert_right(disc, 1, 45)

    def test_hidden_files_and_folders_count(self):
        hidden = Folder(b"H", [File(b"X.;1", 1, flags=1)], flags=3)
        self.assert_right(Disc([File(b"A.;1", 5, flags=1), hidden]), 2, 2)

    def test_the_first_two_may_be_hidden_or_not_whatever_the_folder_is(self):
        for flags in (2, 3):
            for link_flags in ((2, 2), (2, 3), (3, 2), (3, 3)):
                with self.subTest(flags=flags, link_flags=link_flags):
                    below = Folder(b"H", flags=flags, link_flags=link_flags)
                    self.assert_right(Disc([below]), 2, 0)
                    top = Folder(b"\0", flags=flags, link_flags=link_flags)
                    self.assert_right(Disc(top=top), 1, 0)

    def test_empty_files(self):
        self.assert_right(Disc([File(b"A.;1", 0), File(b"B.;1", 0, place=0)]), 1, 2)

    def test_several_descriptors_of_kind_0(self):
        for boots in (0, 1, 2, 5):
            with self.subTest(boots=boots):
                disc = Disc([File(b"A.;1", 1)], boots=boots)
                self.assertEqual(disc.last_descriptor, 17 + boots)
                self.assert_right(disc, 1, 1)

    def test_spare_sectors_behind(self):
        self.assert_right(Disc([File(b"A.;1", 1)], spare=3), 1, 1)

    def test_something_of_everything(self):
        self.assert_right(rich_disc(), 5, 4)

    def test_files_may_share_their_bytes(self):
        self.assert_right(Disc([File(b"A.;1", 2049, place=0), File(b"B.;1", 2049, place=0)]), 1, 2)

    def test_two_names_of_one_folder_are_two_folders(self):
        below = Folder(b"A", [File(b"X.;1"), Folder(b"Y", [File(b"Z.;1")])])
        self.assert_right(Disc([below, Alias(b"B", below)]), 5, 4)

    def test_tables_and_folders_may_stand_in_any_order(self):
        disc = rich_disc()
        first, second = disc.lower_place, disc.higher_place
        image = list(disc.image)
        for place, other in ((first, second), (second, first)):
            put(image, other * SECTOR, disc.image[place * SECTOR:(place + 1) * SECTOR])
        put(image, MAIN + 140, [second, 0, 0, 0])
        put(image, MAIN + 148, [0, 0, 0, first])
        self.assert_same_answers(image, disc.image)

    def test_the_most_sectors_that_fit(self):
        disc = Disc([File(b"A.;1", 27 * SECTOR)])
        self.assertEqual(disc.sectors, 48)
        self.assert_right(disc, 1, 1)


class VolumeNames(DiscCase):
    def assert_name(self, told, shown):
        disc = Disc([File(b"A.;1", 1)], name=told)
        self.assertEqual(len(told), 32)
        self.assertEqual(len(shown), 32)
        self.assertEqual(look(disc.image), [0, disc.sectors, 1, 1] + list(shown))

    def test_blanks_at_the_end(self):
        self.assert_name(b"NAME" + b" " * 28, b"NAME" + b"\0" * 28)
        self.assert_name(b"N" * 31 + b" ", b"N" * 31 + b"\0")

    def test_blanks_within_and_in_front(self):
        self.assert_name(b" A  B" + b" " * 27, b" A  B" + b"\0" * 27)
        self.assert_name(b" " * 31 + b"Z", b" " * 31 + b"Z")

    def test_blanks_alone(self):
        self.assert_name(b" " * 32, b"\0" * 32)

    def test_all_32_bytes(self):
        self.assert_name(b"ABCDEFGHIJKLMNOPQRSTUVWXYZ_01234", b"ABCDEFGHIJKLMNOPQRSTUVWXYZ_01234")

    def test_any_bytes_may_stand_in_it(self):
        every = bytes(range(256))
        for k in range(0, 256, 32):
            told = every[k:k + 31] + b"x"
            self.assert_name(told, told)

    def test_blanks_before_zeros_are_not_at_its_end(self):
        self.assert_name(b"A " + b"\0" * 30, b"A " + b"\0" * 30)
        self.assert_name(b"A \0" + b" " * 29, b"A \0" + b"\0" * 29)


class OneCallByItself(DiscCase):
    def test_what_is_handed_in_is_the_same_afterwards(self):
        right = rich_disc().image
        wrong = put(list(right), MAIN, [2])
        for image in (right, wrong, right[:-1], [], right[:MAIN + 500]):
            before = list(image)
            look(image)
            self.assertEqual(image, before)

    def test_the_same_call_twice_gives_the_same_answer(self):
        right = rich_disc().image
        wrong = put(list(right), MAIN, [2])
        first = look(right)
        self.assertEqual(look(right), first)
        self.assertEqual(look(wrong), [-3])
        self.assertEqual(look(wrong), [-3])
        self.assertEqual(look(right), first)

    def test_an_answer_that_is_changed_changes_no_later_one(self):
        image = rich_disc().image
        first = look(image)
        kept = list(first)
        first.append(1)
        first[0] = 9
        self.assertEqual(look(image), kept)
        refused = look([])
        refused.append(1)
        self.assertEqual(look([]), [-3])

    def test_the_answer_is_a_list_of_whole_numbers(self):
        for image in (rich_disc().image, []):
            answered = look(image)
            self.assertIs(type(answered), list)
            self.assertEqual({type(value) for value in answered}, {int})

    def test_more_bytes_than_an_image_may_have(self):
        self.assertEqual(look([0] * 16777217), [-2])
        self.assertEqual(look([0] * 16777216), [-3])


class BytesThatAreNotTold(DiscCase):
    """The builder fills them with noise; here they are other ones."""

    def test_bytes_of_any_kind(self):
        disc = rich_disc()
        told_of_main = set(range(0, 8)) | set(range(40, 72)) | set(range(80, 88)) | set(range(120, 144))
        told_of_main |= set(range(148, 152)) | set(range(156, 190)) | {881}
        at_places = list(range(MAIN)) + [MAIN + k for k in range(SECTOR) if k not in told_of_main]
        at_places += [sector * SECTOR + k for sector in (17, 18) for k in range(7, SECTOR)]
        for value in (0, 255, 32):
            image = list(disc.image)
            for at in at_places:
                image[at] = value
            self.assert_same_answers(image, disc.image)

    def test_seven_bytes_of_a_record(self):
        disc = rich_disc()
        for at in (MAIN + 156, disc.top.record_at(0), disc.top.record_at(1), disc.top.record_at(2)):
            self.assert_still_right_with(disc, at + 18, [0, 255, 1, 2, 128, 32, 65])

    def test_bytes_behind_a_table_in_its_sector(self):
        disc = rich_disc()
        for place in (disc.lower_place, disc.higher_place):
            self.assert_still_right_with(disc, place * SECTOR + disc.table_size, [1, 0, 0, 0])

    def test_the_bytes_of_a_file(self):
        disc = Disc([File(b"A.;1", 10)])
        self.assert_still_right_with(disc, (disc.sectors - 1) * SECTOR, both(7, 4))


if __name__ == "__main__":
    unittest.main()
