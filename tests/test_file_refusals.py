"""file: paths that lead to no file, the order of the refusals, and each call by itself."""

import itertools
import unittest

from discbuilder import MAIN, SECTOR, Disc, File, Folder, chain, files_of, put
from disccase import GREATEST, MOST, DiscCase, Watched, rich_disc, wrong_images
from discimages.discs import file, list_all, look

LEAST = -2147483648


class PathsThatLeadToNoFile(DiscCase):
    def setUp(self):
        self.disc = rich_disc()
        self.paths = [path for path, member in files_of(self.disc)]
        self.assertEqual(self.paths, [b"/A.;1", b"/B/IN/LEAF.TXT;1", b"/B/N.1;1", b"/CC/.C;1"])

    def assert_none(self, *paths):
        for path in paths:
            with self.subTest(path=bytes(path)[:60]):
                for start, most in ((0, MOST), (0, 0), (GREATEST, 1)):
                    self.assertEqual(file(start, most, self.disc.image, list(path)), [-4])

    def test_the_right_ones_are_found(self):
        for path in self.paths:
            self.assertGreaterEqual(file(0, MOST, self.disc.image, list(path))[0], 0)

    def test_the_empty_one(self):
        self.assert_none(b"")

    def test_slashes_alone(self):
        self.assert_none(b"/", b"//", b"///", b"/" * 1024)

    def test_a_folders(self):
        for path in (b"/B", b"/B/IN", b"/CC", b"/D"):
            self.assert_none(path, path + b"/", path + b"//", path + b"/\n", path + b"/ 0", path + b";1", path + b".;1")

    def test_without_the_first_slash(self):
        self.assert_none(*[path[1:] for path in self.paths])

    def test_something_else_in_the_place_of_the_first_slash(self):
        for value in range(256):
            if value != 47:
                self.assert_none([value] + list(b"A.;1"), [value] + list(b"/A.;1"))

    def test_without_1_behind(self):
        for path in self.paths:
            for end in (b"", b";", b";2", b";01", b";11", b";1;1", b":1"):
                self.assert_none(path[:-2] + end)

    def test_without_the_point(self):
        self.assert_none(b"/A;1", b"/A", b"/B/N1;1", b"/CC/C;1", b"/B/IN/LEAFTXT;1")

    def test_with_small_letters(self):
        self.assert_none(*[path.lower() for path in self.paths])
        self.assert_none(b"/b/N.1;1", b"/B/n.1;1", b"/B/In/LEAF.TXT;1", b"/B/IN/LEAF.TXt;1")

    def test_a_slash_too_many(self):
        for path in self.paths:
            for k in range(len(path) + 1):
                self.assert_none(path[:k] + b"/" + path[k:])

    def test_other_slashes(self):
        self.assert_none(*[path.replace(b"/", b"\\") for path in self.paths])

    def test_with_what_stands_behind_it_in_the_listing(self):
        listed = bytes(list_all(MOST, self.disc.image)[1:])
        for line in listed.splitlines(True):
            self.assert_none(line, line[:-1], line[:-1].rstrip(b"0123456789"))
        self.assert_none(listed, *[path + b"\n" for path in self.paths])

    def test_a_piece_of_a_right_path(self):
        for path in self.paths:
            for k in range(len(path)):
                self.assert_none(path[:k])
                self.assert_none(path[k + 1:])

    def test_one_byte_less(self):
        for path in self.paths:
            for k in range(len(path)):
                self.assert_none(path[:k] + path[k + 1:])

    def test_one_byte_more(self):
        for value in range(256):
            self.assert_none(list(b"/A.;1") + [value], [value] + list(b"/A.;1"), list(b"/B/N.1;1") + [value])

    def test_every_other_byte(self):
        self.disc = Disc([File(b"A.;1", values=[7])])
        for k in range(5):
            for value in range(256):
                path = put(list(b"/A.;1"), k, [value])
                answered = file(0, MOST, self.disc.image, path)
                self.assertEqual(answered, [1, 7] if path == list(b"/A.;1") else [-4], path)

    def test_1024_bytes(self):
        for path in self.paths:
            for filling in (b"/", b"\0", b" ", b"A", b";1", path, b"/."):
                longest = (path + filling * 1024)[:1024]
                self.assert_none(longest, (filling * 1024)[:1024 - len(path)] + path)
        for value in (0, 1, 32, 47, 65, 127, 128, 255):
            self.assert_none([value] * 1024, [47] + [value] * 1023)

    def test_bytes_above_127_and_zeros(self):
        for path in self.paths:
            self.assert_none([value + 128 for value in path], [255] * len(path), [0] * len(path))
            self.assert_none(list(path) + [0], [0] + list(path), list(path) + [0] * (32 - len(path)))
            self.assert_none(list(path)[:-1] + [path[-1] + 128])

    def test_blanks(self):
        # Names are filled up with blanks where their order is looked at, and there alone.
        self.assert_none(b"/A.;1 ", b"/B /N.1;1", b"/ A.;1", b" /A.;1", b"/A.;1" + b" " * 28, b"/CC/.C;1 ")

    def test_the_names_of_a_folders_first_two_records(self):
        self.assert_none(b"/\0", b"/\1", b"/\0/A.;1", b"/\1/A.;1", b"/B/\0/N.1;1", b"/B/\1/A.;1", b"/B/IN/\1/N.1;1")
        self.assert_none(b"/./A.;1", b"/../A.;1", b"/B/../A.;1", b"/B/./N.1;1")

    def test_a_right_path_of_another_folder(self):
        self.assert_none(b"/N.1;1", b"/.C;1", b"/LEAF.TXT;1", b"/B/A.;1", b"/B/.C;1", b"/B/LEAF.TXT;1", b"/CC/N.1;1")
        self.assert_none(b"/D/.C;1", b"/IN/LEAF.TXT;1", b"/B/IN/N.1;1", b"/B/IN/A.;1", b"/D/B/N.1;1", b"/B/B/N.1;1")

    def test_a_file_as_a_folder(self):
        for path, other in itertools.product(self.paths, self.paths):
            self.assert_none(path + other)

    def test_names_of_the_same_length_and_others_that_are_not_there(self):
        self.assert_none(b"/B.;1", b"/C/N.1;1", b"/B/N.2;1", b"/B/IM/LEAF.TXT;1", b"/A./A.;1", b"/AA.;1", b"/A.A;1")

    def test_no_file_at_all(self):
        for self.disc in (Disc(), Disc([Folder(b"A")]), chain(8)):
            self.assert_none(b"", b"/", b"/A", b"/A/", b"/A.;1", b"/A/A.;1", b"/DOWN", b"/DOWN" * 7, b"/DOWN" * 8,
                             b"/\0", b"/\1", [255] * 1024)


class OrderOfRefusals(DiscCase):
    PATHS = (b"/A.;1", b"", b"/NONE.;1", b"/B/", b"\xff" * 1024)

    def test_start_below_0(self):
        for start in (-1, -2, -2048, -16777216, LEAST):
            for image in [rich_disc().image] + list(wrong_images()):
                for path in self.PATHS:
                    for most in (0, 1, MOST, -1, MOST + 1):
                        self.assertEqual(file(start, most, image, list(path)), [-2])

    def test_most_too_great_or_below_0(self):
        for most in (-1, -2, LEAST, MOST + 1, MOST + 2, GREATEST):
            for image in [rich_disc().image] + list(wrong_images()):
                for path in self.PATHS:
                    for start in (0, 1, GREATEST, -1):
                        self.assertEqual(file(start, most, image, list(path)), [-2])

    def test_the_greatest_ones_are_not_refused(self):
        image = rich_disc().image
        self.assertEqual(file(GREATEST, MOST, image, list(b"/A.;1")), [0])
        self.assertEqual(file(0, MOST, image, list(b"/A.;1"))[0], 10)

    def test_a_wrong_image_with_any_path(self):
        for image in wrong_images():
            for path in self.PATHS:
                for start, most in ((0, MOST), (0, 0), (GREATEST, 1)):
                    self.assertEqual(file(start, most, image, list(path)), [-3])

    def test_a_path_that_is_not_there_with_most_0(self):
        image = rich_disc().image
        for path in self.PATHS[1:]:
            self.assertEqual(file(0, 0, image, list(path)), [-4])
            self.assertEqual(file(GREATEST, 0, image, list(path)), [-4])

    def test_more_bytes_than_a_path_may_have(self):
        for image in [rich_disc().image] + list(wrong_images()):
            for path in ([47] * 1025, [0] * 1025, (list(b"/A.;1") * 300)[:1025], [65] * 5000):
                self.assertEqual(file(0, MOST, image, path), [-2])

    def test_more_bytes_than_an_image_may_have(self):
        image = [0] * 16777217
        for path in (b"", b"/A.;1"):
            self.assertEqual(file(0, 0, image, list(path)), [-2])
            self.assertEqual(file(0, 0, image[:-1], list(path)), [-3])


class OneCallByItself(DiscCase):
    CALLS = ((0, MOST), (3, 4), (9, 1), (10, 1), (GREATEST, 0), (-1, 0), (0, -1), (0, MOST + 1))
    PATHS = (b"/A.;1", b"/B/IN/LEAF.TXT;1", b"/B", b"", b"/NONE.;1", b"\xff" * 1024, b"/" * 1025)

    def calls(self):
        right = rich_disc().image
        images = [right, put(list(right), MAIN, [2]), right[:-1], [], Disc().image]
        for image, path, (start, most) in itertools.product(images, self.PATHS, self.CALLS):
            yield start, most, image, list(path)

    def test_what_is_handed_in_is_the_same_afterwards(self):
        for start, most, image, path in self.calls():
            image_before, path_before = list(image), list(path)
            file(start, most, image, path)
            self.assertTrue(image == image_before and path == path_before)

    def test_what_is_handed_in_is_not_changed_for_a_while_either(self):
        for start, most, image, path in self.calls():
            self.assertEqual(file(start, most, Watched(image), Watched(path)), file(start, most, image, path))

    def test_the_same_call_twice_gives_the_same_answer(self):
        calls = list(self.calls())
        first = [file(*call) for call in calls]
        self.assertEqual([file(*call) for call in calls], first)
        again = [file(*call) for call in reversed(calls)]
        self.assertEqual(list(reversed(again)), first)

    def test_an_answer_that_is_changed_changes_no_later_one(self):
        for call in self.calls():
            first = file(*call)
            kept = list(first)
            first.append(1)
            first[0] = 99
            self.assertEqual(file(*call), kept)

    def test_the_answer_is_a_list_of_whole_numbers(self):
        for call in self.calls():
            answered = file(*call)
            self.assertIs(type(answered), list)
            self.assertEqual({type(value) for value in answered}, {int})

    def test_an_answer_is_no_piece_of_what_is_handed_in(self):
        disc = Disc([File(b"A.;1", 48 * SECTOR, place=0), File(b"B.;1", 27 * SECTOR)])
        image = list(disc.image)
        answered = file(0, MOST, image, list(b"/A.;1"))
        answered[1:] = [0] * len(image)
        self.assertTrue(image == disc.image)

    def test_the_calls_in_any_order(self):
        path = list(b"/B/IN/LEAF.TXT;1")
        for image in [rich_disc().image, Disc().image] + list(wrong_images()):
            calls = [lambda: look(image), lambda: list_all(MOST, image), lambda: file(0, MOST, image, path)]
            alone = [call() for call in calls]
            for order in itertools.permutations(range(3)):
                answered = {k: calls[k]() for k in order}
                self.assertEqual([answered[k] for k in range(3)], alone)


if __name__ == "__main__":
    unittest.main()
