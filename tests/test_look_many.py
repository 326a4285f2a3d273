"""Every byte that is told, changed by itself; and many images made by a fixed chance."""

import random
import unittest

from discbuilder import MAIN, SECTOR, Disc, File, Folder, record_length
from discimages.discs import look
from disccase import DiscCase, answers, is_refused, rich_disc


def member_names(folder):
    return [b"\0", b"\1"] + [member.name for member in folder.members]


def told_bytes(disc):
    """Where the bytes stand that the document settles; without the volume's name, which may be any."""
    told = [MAIN + k for k in list(range(8)) + list(range(80, 88)) + list(range(120, 144)) + list(range(148, 152))]
    told += [MAIN + 156 + k for k in range(34) if not 18 <= k < 25] + [MAIN + 881]
    for sector in range(17, disc.last_descriptor + 1):
        told += [sector * SECTOR + k for k in range(7)]
    for place in (disc.lower_place, disc.higher_place):
        told += range(place * SECTOR, place * SECTOR + disc.table_size)
    for folder in disc.folders:
        dates = set()
        for k in range(len(folder.members) + 2):
            dates.update(range(folder.record_at(k) + 18, folder.record_at(k) + 25))
        start = folder.place * SECTOR
        told += [at for at in range(start, start + folder.size) if at not in dates]
    return told


def choices(disc):
    """Where a told byte may be another one all the same: flags, and signs of files' names."""
    places = {MAIN + 156 + 25}
    for folder in disc.folders:
        for k, name in enumerate(member_names(folder)):
            at = folder.record_at(k)
            places.add(at + 25)
            if k >= 2 and isinstance(folder.members[k - 2], File):
                places.update(range(at + 33, at + 33 + len(name)))
    return places


class EveryByte(DiscCase):
    def assert_each_refused(self, disc, places, mask):
        self.assertEqual(look(disc.image)[0], 0)
        image = list(disc.image)
        for at in places:
            image[at] ^= mask
            if not is_refused(image):
                self.fail(f"byte {at % SECTOR} of sector {at // SECTOR} may be {image[at]}")
            image[at] ^= mask

    def test_its_highest_bit(self):
        disc = rich_disc()
        self.assert_each_refused(disc, told_bytes(disc), 128)

    def test_its_lowest_bit(self):
        disc = rich_disc()
        free = choices(disc)
        self.assert_each_refused(disc, [at for at in told_bytes(disc) if at not in free], 1)

    def test_bytes_that_are_not_told_all_at_once(self):
        disc = rich_disc()
        told = set(told_bytes(disc)) | set(range(MAIN + 40, MAIN + 72))
        for mask in (1, 128, 255):
            image = [value if at in told else value ^ mask for at, value in enumerate(disc.image)]
            self.assert_same_answers(image, disc.image)


class ByChance(DiscCase):
    SIGNS = b"ABCDEFGHIJKLMNOPQRSTUVWXYZ0123456789_"

    def signs(self, chance, least, most):
        return bytes(chance.choice(self.SIGNS) for k in range(chance.randint(least, most)))

    def file_name(self, chance):
        name = self.signs(chance, 1, chance.choice((1, 2, 8, 30)))
        k = chance.randint(0, len(name))
        return name[:k] + b"." + name[k:] + b";1"

    def members(self, chance, depth, left):
        """Members of a folder so deep; left holds how many folders may still be made."""
        found = {}
        for k in range(chance.choice((0, 1, 2, 5, 20))):
            if chance.random() < 0.4 and depth < 8 and left[0] > 0:
                left[0] -= 1
                name = self.signs(chance, 1, chance.choice((1, 2, 8, 31)))
                if name not in found:
                    found[name] = Folder(name, self.members(chance, depth + 1, left), flags=chance.choice((2, 3)))
            else:
                name = self.file_name(chance)
                found[name] = File(name, chance.choice((0, 1, 100)), place=0, flags=chance.choice((0, 1)))
        return [found[name] for name in sorted(found)]

    def disc(self, chance):
        return Disc(self.members(chance, 1, [12]), name=self.signs(chance, 0, 32), boots=chance.randint(0, 2))

    def count_files(self, disc):
        return sum(isinstance(member, File) for folder in disc.folders for member in folder.members)

    def test_right_images(self):
        chance = random.Random(1)
        for k in range(200):
            disc = self.disc(chance)
            self.assert_right(disc, len(disc.folders), self.count_files(disc))

    def test_members_in_another_order(self):
        chance = random.Random(2)
        for k in range(200):
            members = self.members(chance, 1, [12])
            mixed = list(members)
            chance.shuffle(mixed)
            if mixed != members:
                self.assert_refused(Disc(mixed).image)

    def test_images_with_a_few_other_bytes_end_with_an_answer(self):
        chance = random.Random(3)
        for k in range(1500):
            image = list(self.disc(chance).image) if k % 10 == 0 else image
            changed = list(image)
            for times in range(chance.randint(1, 4)):
                changed[chance.randrange(MAIN, len(image))] = chance.choice((0, 1, 2, 34, 255, chance.randrange(256)))
            looked, briefly, listed, found, lost = answers(changed)
            if looked == [-3]:
                self.assertEqual([briefly, listed, found, lost], [[-3]] * 4)
            else:
                self.assertEqual((looked[0], len(looked)), (0, 36))
                self.assertEqual(listed[0], len(listed) - 1)
                self.assertEqual(listed[1:].count(10), looked[2] - 1 + looked[3])
                self.assertEqual(briefly, [0] if listed == [0] else [-1])
                is_there = (b"\n" + bytes(listed[1:])).count(b"\n/A.;1 ") == 1
                self.assertEqual([found, lost], [[0] if is_there else [-4], [-4]])

    def test_bytes_at_random_end_with_an_answer(self):
        chance = random.Random(4)
        for k in range(50):
            self.assert_refused([chance.randrange(256) for k in range(chance.choice((10, 2048, 36864, 100000)))])


class TheBuilder(DiscCase):
    def test_lengths_of_records(self):
        self.assertEqual([record_length(b"N" * k) for k in range(1, 7)], [34, 36, 36, 38, 38, 40])


if __name__ == "__main__":
    unittest.main()
