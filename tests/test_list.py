"""list_all: what it tells of right images, compared number by number, and when it refuses."""

import unittest

from discbuilder import MAIN, SECTOR, Alias, Disc, File, Folder, both, chain, crowd, file_names, folder_names, listing
from discbuilder import one_folder_as, put, stacked_crowd
from disccase import MOST, DiscCase, Watched, rich_disc, wrong_images
from discimages.discs import list_all

RICH_LISTING = (b"/A.;1 10\n"
                b"/B/\n"
                b"/B/IN/\n"
                b"/B/IN/LEAF.TXT;1 5\n"
                b"/B/N.1;1 0\n"
                b"/CC/\n"
                b"/CC/.C;1 2048\n"
                b"/D/\n")


class OrdinaryImages(DiscCase):
    def assert_members_listed(self, members, told):
        disc = Disc(members)
        self.assertLessEqual(len(disc.image), 100000)
        self.assert_listed(disc.image, told)

    def test_only_the_top_folder(self):
        for most in (0, 1, MOST):
            self.assertEqual(list_all(most, Disc().image), [0])

    def test_one_file_number_by_number(self):
        image = Disc([File(b"A.B;1", 12)]).image
        self.assertEqual(list_all(MOST, image), [10, 47, 65, 46, 66, 59, 49, 32, 49, 50, 10])

    def test_one_folder_number_by_number(self):
        image = Disc([Folder(b"A_9")]).image
        self.assertEqual(list_all(MOST, image), [6, 47, 65, 95, 57, 47, 10])

    def test_files_in_the_top_folder(self):
        members = [File(b"A.;1", 1), File(b"B.TXT;1", 5000), File(b"C.;1", 2048)]
        self.assert_members_listed(members, b"/A.;1 1\n/B.TXT;1 5000\n/C.;1 2048\n")

    def test_how_many_bytes_a_file_has(self):
        for size in (0, 1, 9, 10, 11, 99, 100, 101, 999, 1000, 2047, 2048, 2049, 9999, 10000, 20480):
            with self.subTest(size=size):
                self.assert_members_listed([File(b"A.;1", size)], b"/A.;1 " + str(size).encode() + b"\n")

    def test_very_many_bytes(self):
        self.assert_members_listed([File(b"A.;1", 48 * SECTOR, place=0), File(b"B.;1", 27 * SECTOR)],
                                   b"/A.;1 98304\n/B.;1 55296\n")

    def test_empty_files(self):
        self.assert_members_listed([File(b"A.;1"), File(b"B.;1", 0, place=0)], b"/A.;1 0\n/B.;1 0\n")

    def test_empty_folders(self):
        members = [Folder(b"A"), Folder(b"B", [Folder(b"C"), Folder(b"D")]), Folder(b"E")]
        self.assert_members_listed(members, b"/A/\n/B/\n/B/C/\n/B/D/\n/E/\n")

    def test_folders_in_folders_and_what_stands_behind_them(self):
        first = Folder(b"A", [Folder(b"X", [File(b"F.;1", 3)]), Folder(b"Y"), File(b"Z.;1", 9)])
        second = Folder(b"B", [Folder(b"V"), Folder(b"W", [Folder(b"U", [File(b"G.;1", 4)])]), File(b"Z.;1", 10)])
        told = (b"/A/\n/A/X/\n/A/X/F.;1 3\n/A/Y/\n/A/Z.;1 9\n"
                b"/B/\n/B/V/\n/B/W/\n/B/W/U/\n/B/W/U/G.;1 4\n/B/Z.;1 10\n"
                b"/C.;1 7\n/D/\n")
        self.assert_members_listed([first, second, File(b"C.;1", 7), Folder(b"D")], told)

    def test_files_and_folders_stand_among_one_another(self):
        folders = [Folder(b"B", [File(b"X.;1")]), Folder(b"D", [Folder(b"X")])]
        members = [File(b"A.;1"), folders[0], File(b"C.;1"), folders[1], File(b"E.;1")]
        self.assert_members_listed(members, b"/A.;1 0\n/B/\n/B/X.;1 0\n/C.;1 0\n/D/\n/D/X/\n/E.;1 0\n")

    def test_the_folders_order_is_not_that_of_the_lines(self):
        # By its bytes the line of A.;1 would stand before A's, and that of AB between A's and what is in A.
        members = [Folder(b"A", [File(b"X.;1"), Folder(b"Y", [File(b"X.;1")])]), File(b"A.;1"), Folder(b"AB")]
        self.assert_members_listed(members, b"/A/\n/A/X.;1 0\n/A/Y/\n/A/Y/X.;1 0\n/A.;1 0\n/AB/\n")

    def test_hidden_ones(self):
        hidden = Folder(b"H", [File(b"X.;1", 1, flags=1), Folder(b"Y", flags=3)], flags=3)
        self.assert_members_listed([File(b"A.;1", 5, flags=1), hidden], b"/A.;1 5\n/H/\n/H/X.;1 1\n/H/Y/\n")

    def test_several_names_of_one_folder(self):
        below = Folder(b"A", [File(b"X.;1", 2), Folder(b"Y", [File(b"Z.;1", 3)])])
        told = b"".join(b"/%s/\n/%s/X.;1 2\n/%s/Y/\n/%s/Y/Z.;1 3\n" % ((name,) * 4) for name in (b"A", b"B", b"D"))
        self.assert_members_listed([below, Alias(b"B", below), Alias(b"D", below)], told)

    def test_several_names_in_two_levels(self):
        inner = one_folder_as([b"X", b"Y"], [File(b"F.;1", 1)])
        told = b""
        for name in (b"A", b"B"):
            told += b"/%s/\n" % name
            for other in (b"X", b"Y"):
                told += b"/%s/%s/\n/%s/%s/F.;1 1\n" % (name, other, name, other)
        self.assert_members_listed(one_folder_as([b"A", b"B"], inner), told)

    def test_the_longest_names(self):
        folder, file = b"F" * 31, b"N" * 15 + b"." + b"M" * 15 + b";1"
        self.assert_members_listed([Folder(folder, [File(file, 7)]), File(file, 8)],
                                   b"/" + folder + b"/\n/" + folder + b"/" + file + b" 7\n/" + file + b" 8\n")

    def test_a_folder_of_several_sectors(self):
        names = file_names(150)
        told = b"/MANY/\n" + b"".join(b"/MANY/" + name + b" 0\n" for name in names) + b"/NEXT/\n"
        self.assert_members_listed([Folder(b"MANY", [File(name) for name in names]), Folder(b"NEXT")], told)

    def test_sectors_that_end_before_they_are_full(self):
        below = Folder(b"B", [File(b"X.;1"), Folder(b"Y")], breaks=(1, 2, 3))
        self.assert_members_listed([below, File(b"C.;1")], b"/B/\n/B/X.;1 0\n/B/Y/\n/C.;1 0\n")

    def test_something_of_everything(self):
        self.assert_listed(rich_disc().image, RICH_LISTING)

    def test_the_builder_tells_the_same(self):
        self.assertEqual(listing(rich_disc()), RICH_LISTING)


class Edges(DiscCase):
    def test_8_deep(self):
        disc = chain(8, [File(b"A.;1", 3), File(b"B.;1")])
        way = b"/DOWN" * 7
        told = b"".join(b"/DOWN" * k + b"/\n" for k in range(1, 8)) + way + b"/A.;1 3\n" + way + b"/B.;1 0\n"
        self.assert_listed(disc.image, told)

    def test_up_again_from_8_deep(self):
        members = [File(b"A.;1", 1)]
        told = b"/A.;1 1\n"
        for k in range(7):
            members = [Folder(b"D", members), File(b"E.;1", k)]
            told = b"/D/\n" + b"".join(b"/D" + row for row in told.splitlines(True)) + b"/E.;1 %d\n" % k
        self.assert_listed(Disc(members).image, told)

    def test_9_deep(self):
        self.assert_refused(chain(9).image)

    def test_16384(self):
        told = b""
        for folder in folder_names(32):
            told += b"/" + folder + b"/\n" + b"".join(b"/" + folder + b"/" + name + b" 0\n" for name in file_names(511))
        self.assertEqual(told.count(b"\n"), 16384)
        self.assert_listed(crowd(32, 511).image, told)

    def test_16384_in_two_levels(self):
        disc = stacked_crowd(88)
        told = listing(disc)
        self.assertEqual(told.count(b"\n"), 16384)
        self.assert_listed(disc.image, told)

    def test_16385(self):
        self.assert_refused(crowd(32, 511, [File(b"ZZ.;1")]).image)
        self.assert_refused(crowd(32, 511, [Folder(b"ZZ")]).image)

    def test_nearly_a_million_bytes(self):
        # 7 levels of the longest names on the way, and files of the longest names in the deepest folders.
        long_names = [b"N" * 28 + name for name in file_names(200)]
        names = [b"F" * 29 + name for name in folder_names(18)]
        members = one_folder_as(names, [File(name, 40000, place=0) for name in long_names])
        for k in range(6):
            members = [Folder(b"D" * 31, members)]
        disc = Disc(members)
        self.assertLessEqual(len(disc.image), 100000)
        told = listing(disc)
        self.assertTrue(900000 < len(told) < 999999)
        last = (b"/" + b"D" * 31) * 6 + b"/" + names[-1] + b"/" + long_names[-1] + b" 40000\n"
        self.assertTrue(told.endswith(last))
        self.assert_listed(disc.image, told)


class Most(DiscCase):
    def test_as_many_as_there_are_and_one_less(self):
        image = rich_disc().image
        count = len(RICH_LISTING)
        self.assertEqual(list_all(count, image), [count] + list(RICH_LISTING))
        self.assertEqual(list_all(count - 1, image), [-1])

    def test_every_number_around(self):
        image = Disc([File(b"A.;1", 10)]).image
        for most in range(30):
            self.assertEqual(list_all(most, image), [-1] if most < 9 else [9] + list(b"/A.;1 10\n"))

    def test_0(self):
        self.assertEqual(list_all(0, Disc().image), [0])
        self.assertEqual(list_all(0, Disc([Folder(b"A")]).image), [-1])
        self.assertEqual(list_all(0, Disc([File(b"A.;1")]).image), [-1])

    def test_the_greatest(self):
        self.assertEqual(list_all(16777216, rich_disc().image), [len(RICH_LISTING)] + list(RICH_LISTING))

    def test_too_great_or_below_0(self):
        for most in (16777217, 16777218, 33554432, 2147483647, -1, -2, -9, -16777216, -2147483648):
            for disc in (rich_disc(), Disc()):
                with self.subTest(most=most):
                    self.assertEqual(list_all(most, disc.image), [-2])


class OrderOfRefusals(DiscCase):
    def test_a_wrong_most_with_a_wrong_image(self):
        for image in wrong_images():
            for most in (-1, 16777217, -2147483648, 2147483647):
                self.assertEqual(list_all(most, image), [-2])

    def test_a_small_most_with_a_wrong_image(self):
        for image in wrong_images():
            for most in (0, 1, 10, len(RICH_LISTING) - 1, len(RICH_LISTING), 16777216):
                self.assertEqual(list_all(most, image), [-3])

    def test_more_bytes_than_an_image_may_have(self):
        image = [0] * 16777217
        for most in (0, 16777216, -1):
            self.assertEqual(list_all(most, image), [-2])
        self.assertEqual(list_all(0, image[:-1]), [-3])
        self.assertEqual(list_all(-1, image[:-1]), [-2])


class OneCallByItself(DiscCase):
    CALLS = (-1, 0, 10, len(RICH_LISTING), MOST, MOST + 1)

    def images(self):
        right = rich_disc().image
        return [right, put(list(right), MAIN, [2]), right[:-1], right[:MAIN + 500], [], Disc().image]

    def test_what_is_handed_in_is_the_same_afterwards(self):
        for image in self.images():
            before = list(image)
            for most in self.CALLS:
                list_all(most, image)
                self.assertEqual(image, before)

    def test_what_is_handed_in_is_not_changed_for_a_while_either(self):
        for image in self.images():
            for most in self.CALLS:
                self.assertEqual(list_all(most, Watched(image)), list_all(most, image))

    def test_the_same_call_twice_gives_the_same_answer(self):
        calls = [(most, image) for image in self.images() for most in self.CALLS]
        first = [list_all(most, image) for most, image in calls]
        self.assertEqual([list_all(most, image) for most, image in calls], first)
        again = [list_all(most, image) for most, image in reversed(calls)]
        self.assertEqual(list(reversed(again)), first)

    def test_an_answer_that_is_changed_changes_no_later_one(self):
        for image in self.images():
            for most in self.CALLS:
                first = list_all(most, image)
                kept = list(first)
                first.append(1)
                first[0] = 99
                self.assertEqual(list_all(most, image), kept)

    def test_the_answer_is_a_list_of_whole_numbers(self):
        for image in self.images():
            for most in self.CALLS:
                answered = list_all(most, image)
                self.assertIs(type(answered), list)
                self.assertEqual({type(value) for value in answered}, {int})


class OtherBytes(DiscCase):
    def test_a_size_that_is_told_anew(self):
        disc = rich_disc()
        image = put(list(disc.image), disc.top.record_at(2) + 10, both(2000, 4))
        self.assert_listed(image, RICH_LISTING.replace(b"/A.;1 10\n", b"/A.;1 2000\n"))

    def test_one_record_more(self):
        disc = Disc([File(b"A.;1", 0, place=0), File(b"B.;1", 0, place=0)])
        self.assert_listed(disc.image, b"/A.;1 0\n/B.;1 0\n")
        image = put(list(disc.image), disc.top.record_at(3), [0] * 38)
        self.assert_listed(image, b"/A.;1 0\n")


if __name__ == "__main__":
    unittest.main()
