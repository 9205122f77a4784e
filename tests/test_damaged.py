"""Damaged images are refused or listed, and never make the program fail."""

import random
import unittest

from strictvolume.volumes import list_of
from volume_images import MOST, SECTOR, as_bytes, sample

PATHS = ("/", "/deep", "/folder", "/folder/inner", "/deep/a1", "/.", "/folder/note/x", "")


def places_in_use(disk):
    places = list(range(SECTOR))
    for at in disk.records:
        places += range(disk.record_place(at), disk.record_place(at) + disk.record_length)
    for begin in disk.block_places.values():
        places += range(begin, begin + disk.block_length)
    return places


class Damaged(unittest.TestCase):
    def assert_an_answer(self, image, path, note):
        told = list_of(MOST, image, as_bytes(path))
        if told[0] < 0:
            self.assertIn(told, ([-3], [-4], [-5]), note)
        else:
            self.assertEqual(told[0], len(told) - 1, note)
            self.assertTrue(all(0x20 <= byte <= 0x7E or byte == 10 for byte in told[1:]), note)

    def test_one_to_four_bytes(self):
        disk = sample()
        image = disk.image()
        places = places_in_use(disk)
        chance = random.Random(7)
        for turn in range(4000):
            damaged = list(image)
            changes = [(chance.choice(places), chance.choice((0, 1, 2, 8, 16, 127, 128, 255, chance.randrange(256))))
                       for step in range(chance.randrange(1, 5))]
            for place, value in changes:
                damaged[place] = value
            self.assert_an_answer(damaged, chance.choice(PATHS), changes)

    def test_cut_short(self):
        image = sample().image()
        for many in range(0, len(image), 997):
            self.assertEqual(list_of(MOST, image[:many], as_bytes("/")), [-3])

    def test_without_form(self):
        chance = random.Random(11)
        for many in (0, 1, 511, 512, 513, 5000):
            self.assertEqual(list_of(MOST, [chance.randrange(256) for step in range(many)], as_bytes("/")), [-3])


if __name__ == "__main__":
    unittest.main()
