"""The first sector. A path without / tells apart: it's refused by -4 if the sector is so, by -3 if it isn't."""

import unittest

from volume_images import Disk, SAMPLE_DEEP, SAMPLE_TOP, SECTOR, TOP, answer, entry, last, put, sample


class Changed(unittest.TestCase):
    def assert_refused(self, place, value, many):
        disk = sample()
        put(disk.first, place, value, many)
        for path in ("/", "/deep", "x"):
            self.assertEqual(answer(disk, path), -3, (place, value))

    def test_name(self):
        for place in range(3, 11):
            self.assert_refused(place, 0, 1)
            self.assert_refused(place, ord("x"), 1)

    def test_bytes_of_a_sector(self):
        for value in (0, 256, 511, 513, 1024, 4096, 512 + 1, 2):
            self.assert_refused(11, value, 2)

    def test_sectors_of_a_cluster(self):
        for value in range(256):
            if value not in (1, 2, 4, 8, 16, 32, 64, 128):
                self.assert_refused(13, value, 1)

    def test_sectors_of_a_cluster_by_which_all_else_is_laid_out(self):
        for per_cluster in (3, 5, 6, 7, 9, 12, 24, 48, 96, 127, 129, 192, 255):
            self.assertEqual(answer(with_blocks(per_cluster), "x"), -3, per_cluster)

    def test_closing_bytes(self):
        for place, value in ((510, 0xAA), (510, 0), (511, 0x55), (511, 0), (510, 0x54), (511, 0xAB)):
            self.assert_refused(place, value, 1)

    def test_bytes_that_are_not_looked_at(self):
        disk = sample()
        looked_at = list(range(3, 14)) + list(range(40, 56)) + [64, 68, 510, 511]
        for place in range(SECTOR):
            if place not in looked_at:
                disk.first[place] ^= 0xFF
        self.assertEqual(answer(disk), SAMPLE_TOP)
        self.assertEqual(answer(disk, "/deep"), SAMPLE_DEEP)


class Image(unittest.TestCase):
    def test_shorter_than_a_sector(self):
        image = sample().image()
        for many in (0, 1, 3, 11, 510, 511):
            self.assertEqual(answer(image[:many]), -3)

    def test_shorter_than_told(self):
        image = sample().image()
        self.assertEqual(answer(image[:-1]), -3)
        self.assertEqual(answer(image[:SECTOR]), -3)
        self.assertEqual(answer(image), SAMPLE_TOP)
        self.assertEqual(answer(image + [7]), SAMPLE_TOP)
        self.assertEqual(answer(image + [7] * SECTOR), SAMPLE_TOP)

    def test_sectors_told(self):
        sectors = len(sample().space) // SECTOR
        for told in (sectors + 1, 0, 1, sectors + 2 ** 32, sectors + 2 ** 56, 2 ** 64 - 1, 2 ** 63):
            disk = sample()
            put(disk.first, 40, told, 8)
            self.assertEqual(answer(disk, "x"), -3, told)

    def test_what_is_behind_is_not_the_volumes(self):
        disk = sample()
        end_of_use = disk.free
        put(disk.first, 40, end_of_use, 8)
        self.assertEqual(answer(disk, "/deep"), SAMPLE_DEEP)
        put(disk.first, 40, end_of_use - 1, 8)
        self.assertEqual(answer(disk, "/deep"), -3)
        self.assertEqual(answer(disk, "/"), SAMPLE_TOP)

    def test_part_of_a_cluster_at_the_end(self):
        disk = sample(per_cluster=2, clusters=90)
        put(disk.first, 40, disk.free * 2, 8)
        self.assertEqual(answer(disk, "/deep"), SAMPLE_DEEP)
        put(disk.first, 40, disk.free * 2 - 1, 8)
        self.assertEqual(answer(disk, "/deep"), -3)


class ClusterOfTheRecords(unittest.TestCase):
    def test_elsewhere(self):
        for cluster in (0, 1, 3, 2 + 2 ** 32, 2 + 2 ** 56, 2 ** 64 - 1, 190, 189):
            disk = sample()
            put(disk.first, 48, cluster, 8)
            self.assertEqual(answer(disk, "x"), -3, cluster)

    def test_the_last_cluster_that_has_room(self):
        disk = sample()
        zero = disk.image()[1024:2048]
        for cluster, told in ((188, SAMPLE_TOP), (189, -3)):
            put(disk.first, 48, cluster, 8)
            image = disk.image()
            image[cluster * SECTOR:cluster * SECTOR + 1024] = zero
            self.assertEqual(answer(image[:190 * SECTOR]), told)

    def test_room_is_asked_of_the_volume_not_of_the_image(self):
        disk = sample()
        zero = disk.image()[1024:2048]
        put(disk.first, 40, 189, 8)
        for cluster, told in ((187, SAMPLE_TOP), (188, -3)):
            put(disk.first, 48, cluster, 8)
            image = disk.image()
            image[cluster * SECTOR:cluster * SECTOR + 1024] = zero
            self.assertEqual(answer(image), told)


class Clusters(unittest.TestCase):
    def test_each_length_of_a_cluster(self):
        for per_cluster in (1, 2, 4, 8, 16, 32, 64, 128):
            clusters = max(5, 190 // per_cluster)
            disk = sample(per_cluster=per_cluster, clusters=clusters, records_cluster=1)
            self.assertEqual(answer(disk), SAMPLE_TOP, per_cluster)
            self.assertEqual(answer(disk, "/deep"), SAMPLE_DEEP, per_cluster)


# Small enough for the shortest records.
def with_blocks(per_cluster, record_length=1024, block_length=1024, **told):
    clusters = (80 * SECTOR + 2 * block_length) // (per_cluster * SECTOR) + 4
    disk = Disk(per_cluster=per_cluster, record_length=record_length, block_length=block_length, clusters=clusters,
                records_cluster=1, record_count=8, **told)
    second = block_length // disk.unit()
    disk.add_folder(TOP, [entry("m", 6, below=0), last(second)],
                    {0: [entry("a", 6)], second: [entry("z", 6)]})
    disk.add_file(6, b"abc")
    return disk


LISTED = "a 3\nm 3\nz 3\n"


class RecordLength(unittest.TestCase):
    def test_as_powers_of_two(self):
        for told, length in ((247, 512), (246, 1024), (245, 2048), (244, 4096)):
            for per_cluster in (1, 2, 8, 16):
                disk = with_blocks(per_cluster, record_length=length, record_told=told)
                self.assertEqual(answer(disk), LISTED, (told, per_cluster))

    def test_in_clusters(self):
        for per_cluster, told in ((1, 1), (1, 2), (1, 4), (1, 8), (2, 1), (2, 2), (2, 4), (4, 1), (4, 2), (8, 1)):
            disk = with_blocks(per_cluster, record_length=told * per_cluster * SECTOR, record_told=told)
            self.assertEqual(answer(disk), LISTED, (per_cluster, told))

    def test_refused(self):
        for told in range(256):
            if told not in (1, 2, 4, 8, 244, 245, 246, 247):
                disk = sample()
                disk.first[64] = told
                self.assertEqual(answer(disk, "x"), -3, told)

    def test_refused_with_longer_clusters(self):
        for per_cluster, told in ((2, 8), (2, 3), (8, 2), (16, 1), (128, 1), (128, 127)):
            disk = sample(per_cluster=per_cluster, clusters=max(5, 190 // per_cluster), records_cluster=1)
            disk.first[64] = told
            self.assertEqual(answer(disk, "x"), -3, (per_cluster, told))


class BlockLength(unittest.TestCase):
    def test_as_powers_of_two(self):
        for told in range(240, 248):
            for per_cluster in (1, 2, 8):
                disk = with_blocks(per_cluster, block_length=2 ** (256 - told), block_told=told)
                self.assertEqual(answer(disk), LISTED, (told, per_cluster))

    def test_in_clusters(self):
        for per_cluster in (1, 2, 4, 8, 16, 32, 64, 128):
            for told in (1, 2, 4, 8, 16, 32, 64):
                if told * per_cluster <= 128:
                    disk = with_blocks(per_cluster, block_length=told * per_cluster * SECTOR, block_told=told)
                    self.assertEqual(answer(disk), LISTED, (told, per_cluster))

    def test_refused(self):
        for told in range(256):
            if told not in (1, 2, 4, 8, 16, 32, 64) and told not in range(240, 248):
                disk = sample()
                disk.first[68] = told
                self.assertEqual(answer(disk, "x"), -3, told)

    def test_refused_with_longer_clusters(self):
        for per_cluster, told in ((2, 127), (4, 64), (8, 32), (128, 2), (64, 3), (128, 127)):
            disk = sample(per_cluster=per_cluster, clusters=max(5, 190 // per_cluster), records_cluster=1)
            disk.first[68] = told
            self.assertEqual(answer(disk, "x"), -3, (per_cluster, told))

    def test_another_length_than_the_folders(self):
        disk = sample()
        disk.first[68] = 245
        self.assertEqual(answer(disk, "x"), -4)
        self.assertEqual(answer(disk, "/"), -3)


if __name__ == "__main__":
    unittest.main()
