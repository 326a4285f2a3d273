import unittest

from discbuilder import MAIN, SECTOR, Disc, File, both, high, low, put
from discimages.discs import look
from disccase import DiscCase, rich_disc

OTHER_NUMBERS_4 = (0, 1, 255, 256, 65536, 0x7FFFFFFF, 0x80000000, 0xFFFFFFFF)


class MainDescriptor(DiscCase):
    def assert_byte_is_held(self, at, right):
        disc = rich_disc()
        self.assertEqual(disc.image[MAIN + at], right)
        for value in range(256):
            if value != right:
                self.assert_refused(put(list(disc.image), MAIN + at, [value]))

    def test_byte_0(self):
        self.assert_byte_is_held(0, 1)

    def test_each_sign_of_cd001(self):
        for k, sign in enumerate(b"CD001"):
            self.assert_byte_is_held(1 + k, sign)

    def test_byte_6(self):
        self.assert_byte_is_held(6, 1)

    def test_byte_7(self):
        self.assert_byte_is_held(7, 0)

    def test_byte_881(self):
        self.assert_byte_is_held(881, 1)

    def assert_number_is_held(self, at, width, right, others):
        disc = rich_disc()
        self.assertEqual(disc.image[MAIN + at:MAIN + at + 2 * width], both(right, width))
        for number in others:
            if number != right:
                with self.subTest(at=at, number=number):
                    self.assert_refused_with(disc, MAIN + at, both(number, width))
                    self.assert_refused_with(disc, MAIN + at, low(number, width))
                    self.assert_refused_with(disc, MAIN + at + width, high(number, width))

    def test_how_many_sectors(self):
        sectors = rich_disc().sectors
        others = OTHER_NUMBERS_4 + (sectors - 1, sectors + 1, sectors + 65536)
        self.assert_number_is_held(80, 4, sectors, others)

    def test_the_three_numbers(self):
        for at, right in ((120, 1), (124, 1), (128, 2048)):
            self.assert_number_is_held(at, 2, right, (0, 1, 2, 255, 256, 257, 512, 1024, 2048, 4096, 65535))

    def test_the_other_way_round_is_another_number(self):
        disc = rich_disc()
        for at, right, width in ((80, disc.sectors, 4), (120, 1, 2), (124, 1, 2), (128, 2048, 2)):
            self.assert_refused_with(disc, MAIN + at, high(right, width) + low(right, width))

    def test_how_long_a_table_is(self):
        size = rich_disc().table_size
        others = OTHER_NUMBERS_4 + (size - 1, size + 1, size - 2, size + 2, size - 10, size + 10, 2048)
        self.assert_number_is_held(132, 4, size, others)

    def test_where_the_tables_are(self):
        disc = rich_disc()
        for number in OTHER_NUMBERS_4 + (16, 17, disc.top.place, disc.sectors, disc.sectors - 1):
            self.assert_refused_with(disc, MAIN + 140, low(number, 4))
            self.assert_refused_with(disc, MAIN + 148, high(number, 4))

    def test_the_tables_told_the_wrong_way_round(self):
        disc = rich_disc()
        self.assert_refused_with(disc, MAIN + 140, high(disc.lower_place, 4))
        self.assert_refused_with(disc, MAIN + 148, low(disc.higher_place, 4))

    def test_the_tables_changed_for_one_another(self):
        disc = rich_disc()
        self.assert_refused_with(disc, MAIN + 140, low(disc.higher_place, 4))
        self.assert_refused_with(disc, MAIN + 148, high(disc.lower_place, 4))


class TopRecord(DiscCase):
    AT = MAIN + 156

    def test_its_length(self):
        for length in (0, 1, 33, 35, 36, 255):
            self.assert_refused_with(rich_disc(), self.AT, [length])

    def test_a_longer_record(self):
        for length in (2, 3):
            disc = rich_disc()
            image = list(disc.image)
            put(image, self.AT, [34 + length // 2 * 2])
            put(image, self.AT + 32, [length, 0, 0, 0])
            self.assert_refused(image)

    def test_the_0_behind_its_length(self):
        self.assert_refused_with(rich_disc(), self.AT + 1, [1])

    def test_another_place(self):
        disc = rich_disc()
        below = disc.folders[1].place
        for place in (0, 16, below, disc.sectors, 0xFFFFFFFF):
            self.assert_refused_with(disc, self.AT + 2, both(place, 4))

    def test_another_number_of_bytes(self):
        for size in (0, 1, 34, 2047, 2049, 4096, 0xFFFFF800, 0xFFFFFFFF):
            self.assert_refused_with(rich_disc(), self.AT + 10, both(size, 4))

    def test_place_and_bytes_one_way_only(self):
        disc = rich_disc()
        for at in (2, 10):
            self.assert_refused_with(disc, self.AT + at, low(disc.sectors, 4))
            self.assert_refused_with(disc, self.AT + at + 4, high(disc.sectors, 4))

    def test_it_is_a_folder(self):
        for flags in (0, 1):
            self.assert_refused_with(rich_disc(), self.AT + 25, [flags])

    def test_it_may_be_hidden(self):
        self.assert_still_right_with(rich_disc(), self.AT + 25, [3])

    def test_other_flags(self):
        for flags in range(4, 256):
            self.assert_refused_with(rich_disc(), self.AT + 25, [flags])

    def test_two_zeros(self):
        for at in (26, 27):
            for value in (1, 2, 255):
                self.assert_refused_with(rich_disc(), self.AT + at, [value])

    def test_the_number_1(self):
        for number in (0, 2, 256, 257):
            self.assert_refused_with(rich_disc(), self.AT + 28, both(number, 2))
            self.assert_refused_with(rich_disc(), self.AT + 28, low(number, 2))
            self.assert_refused_with(rich_disc(), self.AT + 30, high(number, 2))

    def test_how_long_its_name_is(self):
        for length in (0, 2, 3, 255):
            self.assert_refused_with(rich_disc(), self.AT + 32, [length])

    def test_its_name(self):
        for value in range(1, 256):
            self.assert_refused_with(rich_disc(), self.AT + 33, [value])


class Followers(DiscCase):
    def test_other_kinds_between(self):
        for value in list(range(1, 255)):
            self.assert_refused_with(rich_disc(boots=2), 17 * SECTOR, [value])
            self.assert_refused_with(rich_disc(boots=2), 18 * SECTOR, [value])

    def test_other_kinds_last(self):
        for boots in (0, 2):
            disc = rich_disc(boots)
            for value in range(255):
                self.assert_refused_with(disc, disc.last_descriptor * SECTOR, [value])

    def test_each_sign_of_each_one(self):
        disc = rich_disc(boots=2)
        for sector in (17, 18, 19):
            for k in range(1, 7):
                right = disc.image[sector * SECTOR + k]
                for value in {0, 1, 32, right - 1, right + 1, right ^ 32, 255} - {right}:
                    self.assert_refused_with(disc, sector * SECTOR + k, [value])

    def test_byte_7_is_not_told_of_them(self):
        disc = rich_disc(boots=1)
        for sector in (17, 18):
            for value in (0, 1, 255):
                self.assert_still_right_with(disc, sector * SECTOR + 7, [value])

    def test_one_of_kind_255_ends_them(self):
        # What stands behind it is no descriptor, and needs to be none.
        self.assert_still_right_with(rich_disc(boots=1), 17 * SECTOR, [255])

    def test_none_of_kind_255_up_to_the_end(self):
        disc = Disc([File(b"A.;1", 1)], spare=3)
        image = list(disc.image)
        for sector in range(17, disc.sectors):
            put(image, sector * SECTOR, [0] + list(b"CD001") + [1])
        self.assert_refused(image)

    def test_no_room_for_one(self):
        image = Disc().image[:17 * SECTOR]
        put(image, MAIN + 80, both(17, 4))
        self.assert_refused(image)


class Length(DiscCase):
    def test_the_empty_image(self):
        self.assert_refused([])

    def test_every_image_of_up_to_three_bytes(self):
        for image in ([0], [1], [255], [1, 67], [0, 0], [1, 67, 68]):
            self.assert_refused(image)

    def test_zeros_alone(self):
        for sectors in range(49):
            for more in (0, 1, 2047):
                if sectors * SECTOR + more <= 100000:
                    self.assert_refused([0] * (sectors * SECTOR + more))

    def test_each_byte_alone_in_the_longest_image(self):
        for value in (1, 2, 34, 67, 128, 255):
            self.assert_refused([value] * 100000)

    def test_a_part_of_a_sector_behind(self):
        disc = rich_disc()
        for more in (1, 34, 1024, 2047):
            for value in (0, 1):
                self.assert_refused(disc.image + [value] * more)

    def test_whole_sectors_behind_that_are_not_told(self):
        disc = rich_disc()
        for more in (1, 2):
            self.assert_refused(disc.image + [0] * (more * SECTOR))

    def test_whole_sectors_behind_that_are_told(self):
        disc = rich_disc()
        image = disc.image + [0] * SECTOR
        put(image, MAIN + 80, both(disc.sectors + 1, 4))
        self.assertEqual(look(image)[:2], [0, disc.sectors + 1])

    def test_cut_at_every_sector(self):
        disc = rich_disc()
        for sectors in range(disc.sectors):
            self.assert_refused(disc.image[:sectors * SECTOR])

    def test_cut_at_every_sector_and_told_so(self):
        # The last sector holds a file's bytes, so each cut takes something that is needed.
        disc = rich_disc()
        for sectors in range(17, disc.sectors):
            image = disc.image[:sectors * SECTOR]
            put(image, MAIN + 80, both(sectors, 4))
            self.assert_refused(image)

    def test_cut_within_every_part(self):
        disc = rich_disc()
        cuts = [MAIN + k for k in range(0, 1000)]
        for sector in range(disc.sectors):
            cuts += [sector * SECTOR + k for k in (1, 2, 7, 8, 33, 34, 35, 67, 68, 69, 100, 1024, 2047)]
        for cut in cuts:
            self.assert_refused(disc.image[:cut])

    def test_without_its_first_bytes(self):
        disc = rich_disc()
        for cut in (1, SECTOR, MAIN):
            self.assert_refused(disc.image[cut:])
            self.assert_refused(disc.image[cut:] + [0] * cut)


if __name__ == "__main__":
    unittest.main()
