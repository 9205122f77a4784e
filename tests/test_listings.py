"""Listings: a line for each entry."""

import unittest

from strictvolume.volumes import list_of
from volume_images import (Disk, MOST, SAMPLE_TOP, SECTOR, TOP, answer, as_bytes, entry, here, in_clusters, last,
                           sample)


class Lines(unittest.TestCase):
    def test_by_the_letter(self):
        disk = Disk()
        disk.add_folder(TOP, [entry("Ab", 6), entry("c", 7)])
        disk.add_folder(6, [])
        disk.add_file(7, b"0123456789")
        told = [4 + 5, 65, 98, 47, 10, 99, 32, 49, 48, 10]
        self.assertEqual(list_of(MOST, disk.image(), [47]), told)

    def test_an_empty_folder(self):
        disk = Disk()
        disk.add_folder(TOP, [])
        self.assertEqual(list_of(MOST, disk.image(), [47]), [0])
        self.assertEqual(list_of(0, disk.image(), [47]), [0])

    def test_letters_stay_as_they_are(self):
        disk = Disk()
        disk.add_folder(TOP, [entry("ALL", 6), entry("bOTH", 6), entry("none", 6)])
        disk.add_file(6)
        self.assertEqual(answer(disk), "ALL 0\nbOTH 0\nnone 0\n")

    def test_sizes_of_files(self):
        disk = Disk()
        disk.add(6, [])
        disk.add_file(7)
        disk.add_file(8, bytes(9))
        disk.add_file(9, bytes(10))
        disk.add_stored_file(10, bytes(512))
        disk.add_stored_file(11, bytes(10000))
        disk.add(12, [in_clusters(0x80, "", [(2 ** 32 - 1, None)] * 2, 4398046510080)])
        disk.add(13, [in_clusters(0x80, "", [(3, 150), (2, None), (1, 140)], 3000, 100)])
        disk.add(14, [here(0x80, "side", bytes(100))])
        names = ["f%02d" % at for at in range(6, 15)]
        disk.add_folder(TOP, [last(0)], {0: [entry(names[at - 6], at) for at in range(6, 15)]})
        sizes = (0, 0, 9, 10, 512, 10000, 4398046510080, 3000, 0)
        self.assertEqual(answer(disk), "".join("%s %d\n" % pair for pair in zip(names, sizes)))

    def test_the_entry_of_one_dot_is_left_out(self):
        disk = sample()
        disk.add_folder(TOP, [entry(".", TOP)])
        self.assertEqual(answer(disk), "")

    def test_the_record_of_one_dot_is_not_looked_at(self):
        for at, uses in ((TOP, 99), (999, 1), (9, 1)):
            disk = sample()
            disk.add_folder(TOP, [entry(".", at, uses), entry("hello.txt", 19)])
            self.assertEqual(answer(disk), "hello.txt 5\n")
            self.assertEqual(answer(disk, "/."), -3)

    def test_one_dot_in_other_folders_is_left_out_too(self):
        disk = sample()
        disk.add_folder(17, [entry(".", 19), entry("..", 19), entry(".a", 19)], uses=4)
        self.assertEqual(answer(disk, "/folder"), ".. 5\n.a 5\n")
        self.assertEqual(answer(disk, "/folder/."), -5)

    def test_kind_2_is_left_out(self):
        disk = sample()
        disk.add_folder(TOP, [entry("hello.text", 19, kind=1), entry("HELLO~1.TXT", 19, kind=2)])
        self.assertEqual(answer(disk), "hello.text 5\n")

    def test_the_record_of_kind_2_is_not_looked_at(self):
        disk = sample()
        disk.add_folder(TOP, [entry("hello.text", 19, kind=1), entry("HELLO~1.TXT", 999, 7, kind=2)])
        self.assertEqual(answer(disk), "hello.text 5\n")

    def test_a_record_under_two_names(self):
        disk = sample()
        disk.add_folder(TOP, [entry("one", 19), entry("two", 19)])
        self.assertEqual(answer(disk), "one 5\ntwo 5\n")

    def test_most_counts_every_byte(self):
        disk = sample()
        image = disk.image()
        for most in range(len(SAMPLE_TOP)):
            self.assertEqual(list_of(most, image, [47]), [-1])
        for most in (len(SAMPLE_TOP), len(SAMPLE_TOP) + 1, MOST):
            self.assertEqual(list_of(most, image, [47]), [len(SAMPLE_TOP)] + as_bytes(SAMPLE_TOP))


class WholeVolumes(unittest.TestCase):
    """Every length of cluster, record and block together, with folders of one and of several levels."""

    def made(self, per_cluster, record_length, block_length):
        bytes_needed = 24 * record_length + 8 * block_length + 20 * SECTOR
        clusters = bytes_needed // (per_cluster * SECTOR) + 12
        disk = Disk(per_cluster=per_cluster, record_length=record_length, block_length=block_length,
                    clusters=clusters, records_cluster=1, record_count=16)
        step = block_length // disk.unit()
        disk.add_folder(TOP, [last(0)], {0: [entry("d", 7, below=step), last(2 * step)],
                                         step: [entry(".", TOP), entry("A", 6)],
                                         2 * step: [entry("E", 8), entry("f", 9)]})
        disk.add_folder(6, [])
        disk.add_folder(7, [entry("g", 9, 1)])
        disk.add_file(8, bytes(17))
        disk.add_stored_file(9, bytes(700))
        return disk

    def test_all(self):
        for per_cluster in (1, 2, 8, 16):
            for record_length in (512, 1024, 2048, 4096):
                for block_length in (512, 1024, 4096, 8192):
                    disk = self.made(per_cluster, record_length, block_length)
                    note = (per_cluster, record_length, block_length)
                    self.assertEqual(answer(disk), "A/\nd/\nE 17\nf 700\n", note)
                    self.assertEqual(answer(disk, "/D"), "g 700\n", note)
                    self.assertEqual(answer(disk, "/a"), "", note)
                    self.assertEqual(answer(disk, "/e"), -5, note)


if __name__ == "__main__":
    unittest.main()
