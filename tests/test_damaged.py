"""Damaged images are refused or read, and never make the program fail."""

import random
import unittest

from strictvolume.volumes import file, list_of
from volume_images import MOST, SECTOR, as_bytes, sample

PATHS = ("/", "/deep", "/folder", "/folder/inner", "/deep/a1", "/.", "/folder/note/x", "")
FILES = ("/hello.txt", "/deep/a1", "/deep/m", "/deep/z1", "/deep/z1", "/folder/note", "/folder", "/", "/folder/note/x", "")


def places_in_use(disk):
    places = list(range(SECTOR))
    for at in disk.records:
        places += range(disk.record_place(at), disk.record_place(at) + disk.record_length)
    for begin in disk.block_places.values():
        places += range(begin, begin + disk.block_length)
    return places


class Damaged(unittest.TestCase):
    def assert_an_answer(self, image, path, note):
        told = list_of(MOST, image, as_bytes(path))
        if told[0] < 0:
            self.assertIn(told, ([-3], [-4], [-5]), note)
        else:
            self.assertEqual(told[0], len(told) - 1, note)
            self.assertTrue(all(0x20 <= byte <= 0x7E or byte == 10 for byte in told[1:]), note)

    def assert_a_part(self, image, path, start, most, note):
        told = file(start, most, image, as_bytes(path))
        if told[0] < 0:
            self.assertIn(told, ([-3], [-4], [-5]), note)
        else:
            self.assertEqual(told[0], len(told) - 1, note)
            self.assertLessEqual(told[0], most, note)
            self.assertTrue(all(0 <= byte <= 255 for byte in told[1:]), note)

    def each_damaged(self, chance, many):
        disk = sample()
        image = disk.image()
        places = places_in_use(disk)
        for turn in range(many):
            damaged = list(image)
            changes = [(chance.choice(places), chance.choice((0, 1, 2, 8, 16, 127, 128, 255, chance.randrange(256))))
                       for step in range(chance.randrange(1, 5))]
            for place, value in changes:
                damaged[place] = value
            yield damaged, changes

    def test_one_to_four_bytes(self):
        chance = random.Random(7)
        for damaged, changes in self.each_damaged(chance, 4000):
            self.assert_an_answer(damaged, chance.choice(PATHS), changes)

    def test_files_of_one_to_four_bytes(self):
        chance = random.Random(13)
        for damaged, changes in self.each_damaged(chance, 4000):
            start = chance.choice((0, 1, 511, 512, 1249, 1250, 2147483647))
            self.assert_a_part(damaged, chance.choice(FILES), start, chance.choice((0, 1, 600, 5000)), changes)

    # Every byte of a file's record, one after another: the attribute that tells of its runs is among them.
    def test_each_byte_of_a_files_record(self):
        disk = sample()
        image = disk.image()
        begin = disk.record_place(21)
        for place in range(begin, begin + 360):
            for value in (0, 1, 0x31, 0x80, 255):
                damaged = list(image)
                damaged[place] = value
                self.assert_a_part(damaged, "/deep/z1", 600, 2000, (place, value))

    def test_cut_short(self):
        image = sample().image()
        for many in range(0, len(image), 997):
            self.assertEqual(list_of(MOST, image[:many], as_bytes("/")), [-3])
            self.assertEqual(file(0, MOST, image[:many], as_bytes("/hello.txt")), [-3])

    def test_without_form(self):
        chance = random.Random(11)
        for many in (0, 1, 511, 512, 513, 5000):
            image = [chance.randrange(256) for step in range(many)]
            self.assertEqual(list_of(MOST, image, as_bytes("/")), [-3])
            self.assertEqual(file(0, MOST, image, as_bytes("/hello.txt")), [-3])


if __name__ == "__main__":
    unittest.main()
