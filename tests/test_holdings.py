"""What attributes hold, in themselves and in clusters, and what record 0 holds."""

import unittest

from volume_images import (Disk, SAMPLE_DEEP, SAMPLE_FOLDER, SAMPLE_TOP, SECTOR, TOP, answer, attribute_place, entry,
                           here, in_clusters, last, number, put, sample)

CLUSTERS = 190


def told_of(attribute, **kinds):
    """The listing of a folder with one file that has this attribute."""
    disk = sample(**kinds)
    disk.add_folder(17, [entry("f", 22)], uses=4)
    disk.add(22, [attribute])
    return answer(disk, "/folder")


def stored(runs, clusters, size=0, begun=None):
    return in_clusters(0x80, "", runs, size, begun, clusters)


class Case(unittest.TestCase):
    def assert_size(self, attribute, size, note=None, **kinds):
        self.assertEqual(told_of(attribute, **kinds), "f %d\n" % size, note)

    def assert_refused(self, attribute, note=None, **kinds):
        self.assertEqual(told_of(attribute, **kinds), -3, note)

    def changed(self, attribute, place, value, many):
        data = bytearray(attribute)
        put(data, place, value, many)
        return bytes(data)


class Here(Case):
    def test_sizes(self):
        for many in (0, 1, 7, 8, 9, 255, 256, 600):
            self.assert_size(here(0x80, "", bytes(many)), many)

    def test_within_the_attribute(self):
        held = here(0x80, "", bytes(16))
        self.assertEqual(len(held), 40)
        for many, place in ((16, 24), (40, 0), (0, 40), (1, 39), (39, 1), (5, 30)):
            changed = self.changed(self.changed(held, 16, many, 4), 20, place, 2)
            self.assert_size(changed, many, (many, place))
        for many, place in ((17, 24), (41, 0), (0, 41), (1, 40), (0, 65535), (2 ** 32 - 1, 24), (16 + 65536, 24),
                            (2 ** 31, 0)):
            changed = self.changed(self.changed(held, 16, many, 4), 20, place, 2)
            self.assert_refused(changed, (many, place))

    def test_a_place_of_two_bytes(self):
        held = self.changed(here(0x80, "", bytes(400)), 16, 100, 4)
        for place in (255, 256, 300, 324):
            self.assert_size(self.changed(held, 20, place, 2), 100)
            self.assert_size(self.changed(self.changed(held, 20, place, 2), 22, 65535, 2), 100)
        for place in (325, 24 + 512):
            self.assert_refused(self.changed(held, 20, place, 2))

    def test_looked_at_where_the_size_is_told_alone(self):
        disk = sample()
        place = attribute_place(disk.records[22], 0x80)
        put(disk.records[22], place + 16, 1000, 4)
        self.assertEqual(answer(disk, "/folder"), -3)
        self.assertEqual(answer(disk, "/folder/note"), -5)
        self.assertEqual(answer(disk, "/folder/note/x"), -4)
        self.assertEqual(answer(disk, "/folder/inner"), "")
        self.assertEqual(answer(disk), SAMPLE_TOP)

    def test_of_a_folder_no_bytes_are_told(self):
        disk = sample()
        wrong = self.changed(here(0x80, "", b""), 16, 1000, 4)
        disk.add_folder(17, [entry("inner", 18), entry("note", 22, 9)], uses=4, attributes=[wrong])
        self.assertEqual(answer(disk), SAMPLE_TOP)
        self.assertEqual(answer(disk, "/folder"), SAMPLE_FOLDER)


class InClusters(Case):
    def test_sizes(self):
        for clusters in (1, 2, 5):
            for size in (0, 1, 511, 512, clusters * 512 - 1, clusters * 512):
                if size <= clusters * 512:
                    self.assert_size(stored([(clusters, 100)], clusters, size), size)
            self.assert_refused(stored([(clusters, 100)], clusters, clusters * 512 + 1))
            self.assert_refused(stored([(clusters, 100)], clusters, 2 ** 32))
            self.assert_refused(stored([(clusters, 100)], clusters, 2 ** 56 + 1, 0))
            self.assert_refused(stored([(clusters, 100)], clusters, 2 ** 64 - 1))

    def test_size_against_longer_clusters(self):
        kinds = {"per_cluster": 4, "clusters": 60}
        self.assert_size(stored([(2, 50)], 2, 4096), 4096, **kinds)
        self.assert_refused(stored([(2, 50)], 2, 4097), **kinds)

    def test_begun(self):
        for begun in (0, 1, 699, 700):
            self.assert_size(stored([(2, 100)], 2, 700, begun), 700)
        for begun in (701, 1024, 2 ** 32, 2 ** 56 + 1, 2 ** 64 - 1):
            self.assert_refused(stored([(2, 100)], 2, 700, begun), begun)

    def test_least_length(self):
        whole = stored(b"\0", 1)
        self.assertEqual(len(whole), 72)
        short = self.changed(whole[:56], 4, 56, 4)
        self.assert_refused(short)
        # With 64 bytes the runs stand within the head, where there's room for them.
        inner = bytearray(self.changed(whole[:64], 4, 64, 4))
        inner[40:44] = b"\x11\x01\x64\0"
        put(inner, 32, 40, 2)
        self.assert_size(bytes(inner), 0)

    def test_eight_bytes_0(self):
        good = stored([(1, 100)], 1, 5)
        for place in range(16, 24):
            self.assert_refused(self.changed(good, place, 1, 1))
            self.assert_refused(self.changed(good, place, 0x80, 1))

    def test_clusters_told(self):
        for clusters, told in ((3, True), (2, False), (4, False), (3 + 2 ** 32, False), (3 + 2 ** 56, False),
                               (1, False), (2 ** 64, False)):
            attribute = in_clusters(0x80, "", [(1, 100), (2, 110)], 0, 0, clusters)
            self.assertEqual(told_of(attribute), "f 0\n" if told else -3, clusters)

    def test_what_is_not_looked_at(self):
        good = stored([(1, 100)], 1, 5)
        self.assert_size(self.changed(good, 34, 2 ** 48 - 1, 6), 5)
        self.assert_size(self.changed(good, 40, 2 ** 64 - 1, 8), 5)
        self.assert_size(self.changed(good, 14, 65535, 2), 5)

    def test_looked_at_where_the_size_is_told_alone(self):
        disk = sample()
        place = attribute_place(disk.records[21], 0x80)
        put(disk.records[21], place + 24, 77, 8)
        self.assertEqual(answer(disk, "/deep"), -3)
        self.assertEqual(answer(disk, "/deep/z1"), -5)
        self.assertEqual(answer(disk, "/deep/z1/x"), -4)
        self.assertEqual(answer(disk), SAMPLE_TOP)


class NoClusters(Case):
    """Of none, one less is eight bytes FFH."""

    def test_the_bytes_that_tell_it(self):
        self.assertEqual(stored(b"\0", 0)[24:32], b"\xff" * 8)

    def test_a_file_without_bytes(self):
        self.assert_size(stored(b"\0", 0), 0)
        self.assert_size(in_clusters(0x80, "", [], 0, flags=0x8000), 0)
        self.assert_size(stored(b"\0", 0), 0, per_cluster=8, clusters=30)

    def test_bytes_told(self):
        for size, begun in ((1, 1), (1, 0), (512, 0), (2 ** 63, 0), (2 ** 64 - 1, 0), (2 ** 64 - 1, 2 ** 64 - 1)):
            self.assert_refused(stored(b"\0", 0, size, begun), (size, begun))

    def test_begun_told(self):
        for begun in (1, 512, 2 ** 64 - 1):
            self.assert_refused(stored(b"\0", 0, 0, begun), begun)

    def test_a_run(self):
        self.assert_refused(stored([(1, 100)], 0))
        self.assert_refused(stored([(1, None)], 0))
        self.assert_refused(stored([(2 ** 32 - 1, None)], 0))

    def test_no_run_and_clusters_told(self):
        for clusters in (1, 2, 2 ** 32, 2 ** 63, 2 ** 64 - 1):
            self.assert_refused(stored(b"\0", clusters), clusters)

    def test_each_of_the_eight_bytes(self):
        for place in range(24, 32):
            for value in (0, 0x7F, 0xFE):
                self.assert_refused(self.changed(stored(b"\0", 0), place, value, 1), (place, value))

    def test_runs_that_do_not_end_within(self):
        self.assert_refused(self.changed(stored(b"\0", 0), 32, 72, 2))
        self.assert_refused(self.changed(stored(b"\0", 0), 32, 65535, 2))

    def test_of_blocks(self):
        none = in_clusters(0xA0, "$I30", [], 0)
        for entries, told in (([entry("note", 22, 9)], "note 6\n"), ([], ""), ([last(0)], -3),
                              ([entry("note", 22, 9, below=0), last(0)], -3)):
            disk = sample()
            disk.add_folder(17, entries, uses=4, attributes=[none])
            self.assertEqual(answer(disk, "/folder"), told)

    def test_of_blocks_with_bytes_told(self):
        disk = sample()
        disk.add_folder(17, [entry("note", 22, 9)], uses=4, attributes=[in_clusters(0xA0, "$I30", [], 1)])
        self.assertEqual(answer(disk, "/folder"), -3)

    def test_of_records_there_is_no_record_5(self):
        disk = sample()
        disk.add(0, [in_clusters(0x80, "", [], 0)])
        for path in ("/", "x", ""):
            self.assertEqual(answer(disk, path), -3)


class Runs(Case):
    def test_each_number_of_bytes_of_a_length(self):
        for many in range(1, 9):
            self.assert_size(stored(bytes([0x10 + many]) + number(3, many) + b"\x64\0", 3, 1500), 1500, many)

    def test_each_number_of_bytes_of_a_distance(self):
        for many in range(1, 9):
            self.assert_size(stored(bytes([16 * many + 1]) + b"\x03" + number(100, many) + b"\0", 3, 1500), 1500, many)
            back = bytes([0x11, 1, 120]) + bytes([16 * many + 1, 2]) + number(-20, many) + b"\0"
            self.assert_size(stored(back, 3, 1500), 1500, many)

    def test_each_two_together(self):
        for length_bytes in range(1, 9):
            for distance_bytes in range(9):
                run = bytes([16 * distance_bytes + length_bytes]) + number(3, length_bytes)
                run += number(100, distance_bytes) + b"\x01\x02\0"
                self.assert_size(stored(run, 5, 2500), 2500, (length_bytes, distance_bytes))

    def test_no_more_than_eight_bytes(self):
        for many in range(9, 16):
            self.assert_refused(stored(bytes([0x10 + many]) + number(3, many) + b"\x64\0", 3), many)
            self.assert_refused(stored(bytes([16 * many + 1]) + b"\x03" + number(100, many) + b"\0", 3), many)

    def test_a_length_must_be_told(self):
        for first in (0x10, 0x20, 0x80):
            self.assert_refused(stored(bytes([first]) + number(100, first // 16) + b"\0", 1), first)
            self.assert_refused(stored(b"\x11\x01\x64" + bytes([first]) + number(1, first // 16) + b"\0", 1), first)

    def test_length_0(self):
        self.assert_refused(stored(b"\x11\x00\x64\x11\x01\x00\0", 1))
        self.assert_refused(stored(b"\x01\x00\x11\x01\x64\0", 1))
        self.assert_refused(stored(b"\x11\x01\x64\x01\x00\0", 1))

    def test_a_length_has_no_sign(self):
        self.assert_size(stored(b"\x01\xff\0", 255, 255 * 512), 255 * 512)
        self.assert_size(stored(b"\x01\x80\0", 128, 1), 1)

    def test_greatest_length(self):
        greatest = 2 ** 32 - 1
        self.assert_size(stored(b"\x04" + number(greatest, 4) + b"\0", greatest, greatest * 512), greatest * 512)
        self.assert_refused(stored(b"\x05" + number(2 ** 32, 5) + b"\0", 2 ** 32))
        self.assert_refused(stored(b"\x08" + number(2 ** 64 - 1, 8) + b"\0", 2 ** 64 - 1))
        self.assert_refused(stored(b"\x18" + number(2 ** 32 + 1, 8) + b"\x64\0", 2 ** 32 + 1))

    def test_several_of_zeros_are_more_together(self):
        greatest = 2 ** 32 - 1
        runs = [(greatest, None), (greatest, None), (1, 100), (7, None)]
        size = (2 * greatest + 8) * 512
        self.assert_size(in_clusters(0x80, "", runs, size), size)

    def test_zeros(self):
        self.assert_size(in_clusters(0x80, "", [(1000, None)], 512000), 512000)
        self.assert_size(in_clusters(0x80, "", [(1000, None)], 512000, flags=0x8000), 512000)
        self.assert_size(in_clusters(0x80, "", [(2, 100), (5, None), (1, 90)], 4096), 4096)

    def test_where_a_run_begins(self):
        for begin, told in ((0, True), (1, True), (CLUSTERS - 1, True), (CLUSTERS, False), (2 ** 32 - 1, False),
                            (2 ** 32, False), (2 ** 40, False), (2 ** 63 - 1, False)):
            attribute = stored(b"\x81\x01" + number(begin, 8) + b"\0", 1, 1)
            self.assertEqual(told_of(attribute), "f 1\n" if told else -3, begin)

    def test_a_run_ends_within_the_volume(self):
        for clusters, begin, told in ((CLUSTERS, 0, True), (CLUSTERS + 1, 0, False), (2, CLUSTERS - 2, True),
                                      (3, CLUSTERS - 2, False), (2 ** 32 - 1, 0, False)):
            attribute = in_clusters(0x80, "", [(clusters, begin)], 1)
            self.assertEqual(told_of(attribute), "f 1\n" if told else -3, (clusters, begin))

    def test_below_0(self):
        self.assert_refused(stored(b"\x11\x01\xff\0", 1))
        self.assert_refused(stored(b"\x11\x01\x05\x11\x01\xfa\0", 2))
        self.assert_size(stored(b"\x11\x01\x05\x11\x01\xfb\0", 2, 9), 9)
        self.assert_refused(stored(b"\x21\x01\x00\x80\0", 1))

    def test_the_least_distance(self):
        self.assert_size(stored(b"\x21\x01\x96\x00\x11\x01\x80\0", 2, 9), 9)
        self.assert_refused(stored(b"\x21\x01\x7f\x00\x11\x01\x80\0", 2))

    def test_a_distance_counts_from_the_run_before_that_has_one(self):
        top = CLUSTERS - 1
        runs = b"\x11\x01\x64" + b"\x01\x05" + bytes([0x11, 1, top - 100])
        self.assert_size(stored(runs + b"\0", 7, 9), 9)
        more = b"\x11\x01\x64" + b"\x01\x05" + bytes([0x11, 1, top - 100 + 1])
        self.assert_refused(stored(more + b"\0", 7))
        # It counts from where that run began, not from where it ended.
        self.assert_size(stored(b"\x11\x0a\x64" + bytes([0x11, 1, top - 100]) + b"\0", 11, 9), 9)
        self.assert_size(stored(b"\x11\x0a\x64\x11\x01\x9c\0", 11, 9), 9)
        self.assert_refused(stored(b"\x11\x0a\x64\x11\x01\x9b\0", 11))

    def test_the_same_place_twice(self):
        self.assert_size(stored(b"\x11\x01\x64\x11\x01\x00\0", 2, 9), 9)

    def test_closed_within_the_attribute(self):
        good = stored(b"\x11\x01\x64\x11\x01\x01\x01\x05", 7, 9)
        self.assertEqual(len(good), 72)
        self.assert_refused(good)
        self.assert_size(stored(b"\x11\x01\x64\x21\x01\x01\x00\0", 2, 9), 9)
        self.assert_refused(stored(b"\x11\x01\x64\x41\x01\x01\x00\x00", 2, 9))
        self.assert_refused(stored(b"\x11\x01\x64\x01\x01\x14\x01\x00", 2, 9))

    def test_behind_the_closing_byte_nothing_is_looked_at(self):
        self.assert_size(stored(b"\x11\x01\x64\0\xff\xff\xff\xff", 1, 9), 9)

    def test_place_of_the_runs(self):
        good = stored([(1, 100)], 1, 5)
        for place in (len(good), len(good) + 1, 65535):
            self.assert_refused(self.changed(good, 32, place, 2))
        self.assert_refused(self.changed(good, 32, len(good) - 1, 2))
        self.assert_size(self.changed(good[:64] + bytes(4) + good[64:68], 32, 68, 2), 5)
        far = self.changed(good[:64] + bytes(256) + good[64:], 4, len(good) + 256, 4)
        self.assert_size(self.changed(far, 32, 64 + 256, 2), 5)
        self.assert_refused(far)


class Stored(unittest.TestCase):
    """What is stored in clusters is read through blocks and records."""

    def folder_in(self, runs, place_of_block, size=1024, begun=None):
        disk = sample()
        attribute = in_clusters(0xA0, "$I30", runs, size, begun)
        disk.add_folder(17, [last(0)], uses=4, attributes=[attribute])
        disk.add_block(17, 0, place_of_block, [entry("note", 22, 9)])
        return disk

    def test_one_run(self):
        self.assertEqual(answer(self.folder_in([(2, 120)], 120 * SECTOR), "/folder"), "note 6\n")

    def test_parted(self):
        for first, second in ((120, 130), (130, 120), (189, 100), (100, 189)):
            disk = self.folder_in([(1, first), (1, second)], 150 * SECTOR)
            image = disk.image()
            image[first * SECTOR:(first + 1) * SECTOR] = image[150 * SECTOR:151 * SECTOR]
            image[second * SECTOR:(second + 1) * SECTOR] = image[151 * SECTOR:152 * SECTOR]
            self.assertEqual(answer(image, "/folder"), "note 6\n")

    def test_a_run_of_zeros_in_between(self):
        disk = self.folder_in([(1, 120), (1, None)], 120 * SECTOR)
        self.assertEqual(answer(disk, "/folder"), -3)
        self.assertEqual(answer(disk), SAMPLE_TOP)

    def test_behind_what_was_begun_are_zeros(self):
        for begun, told in ((1024, "note 6\n"), (1023, -3), (1022, -3), (512, -3), (0, -3)):
            disk = self.folder_in([(2, 120)], 120 * SECTOR, 1024, begun)
            # A mark of which the second byte isn't 0 shows that the last byte is gone.
            self.assertEqual(answer(disk, "/folder"), told, begun)

    def told_without_marks(self, disk):
        """The marks are zeros, and so are the closing bytes of the block's sectors; behind the first sector is no
        zero, so that one that's told is one that was not read there."""
        image = disk.image()
        begin = 120 * SECTOR
        image[begin + 40:begin + 46] = [0] * 6
        image[begin + 510:begin + 512] = [0, 0]
        image[begin + 512:begin + 1024] = [0xEE] * 512
        return answer(image, "/folder")

    def test_zeros_behind_what_was_begun_may_be_read(self):
        for begun in (512, 511, 300):
            disk = self.folder_in([(2, 120)], 120 * SECTOR, 1024, begun)
            self.assertEqual(self.told_without_marks(disk), "note 6\n")
        for begun in (513, 1024):
            disk = self.folder_in([(2, 120)], 120 * SECTOR, 1024, begun)
            self.assertEqual(self.told_without_marks(disk), "note 6\n" if begun == 513 else -3)

    def test_zeros_of_a_run_may_be_read(self):
        disk = self.folder_in([(1, 120), (1, None)], 120 * SECTOR)
        self.assertEqual(self.told_without_marks(disk), "note 6\n")

    def test_behind_what_is_held_no_zeros_are_read(self):
        for size in (1023, 512):
            disk = self.folder_in([(2, 120)], 120 * SECTOR, size, 512)
            self.assertEqual(self.told_without_marks(disk), -3)

    def test_far_behind_runs_of_zeros(self):
        disk = sample()
        far = 3 * (2 ** 32 - 1)
        attribute = in_clusters(0xA0, "$I30", [(2 ** 32 - 1, None)] * 3 + [(2, 120)], (far + 2) * SECTOR)
        disk.add_folder(17, [last(far)], uses=4, attributes=[attribute])
        disk.add_block(17, far, 120 * SECTOR, [entry("note", 22, 9)])
        self.assertEqual(answer(disk, "/folder"), "note 6\n")


class RecordsHeld(unittest.TestCase):
    def test_records_in_parts(self):
        for runs in ([(4, 2), (20, 60), (24, 30)], [(2, 2), (2, 100), (44, 40)], [(12, 2), (36, 150)],
                     [(12, 150), (36, 100)]):
            disk = sample(records_runs=runs, clusters=400)
            self.assertEqual(answer(disk, "/deep"), SAMPLE_DEEP, runs)

    def test_a_record_in_two_parts(self):
        disk = sample()
        image = disk.image()
        begin = disk.record_place(22) // SECTOR
        elsewhere = 180
        image[elsewhere * SECTOR:(elsewhere + 1) * SECTOR] = image[(begin + 1) * SECTOR:(begin + 2) * SECTOR]
        image[(begin + 1) * SECTOR:(begin + 2) * SECTOR] = [0] * SECTOR
        self.assertEqual(answer(image, "/folder"), -3)
        runs = [(begin + 1 - 2, 2), (1, elsewhere), (48 - begin, begin + 2)]
        disk.add(0, [in_clusters(0x80, "", runs, 24 * 1024)])
        zero = disk.image()[2 * SECTOR:4 * SECTOR]
        image[2 * SECTOR:4 * SECTOR] = zero
        self.assertEqual(answer(image, "/folder"), SAMPLE_FOLDER)

    def test_a_record_within_zeros(self):
        disk = sample()
        disk.add(0, [in_clusters(0x80, "", [(44, 2), (4, None)], 24 * 1024)])
        self.assertEqual(answer(disk, "/folder"), -3)
        self.assertEqual(answer(disk), SAMPLE_TOP)

    def test_a_record_behind_what_was_begun(self):
        for begun, told in ((23 * 1024, SAMPLE_FOLDER), (23 * 1024 - 1, -3), (22 * 1024, -3)):
            disk = sample()
            disk.add(0, [in_clusters(0x80, "", disk.records_runs, 24 * 1024, begun)])
            self.assertEqual(answer(disk, "/folder"), told, begun)
            self.assertEqual(answer(disk), SAMPLE_TOP)

    def test_must_be_in_clusters_and_without_a_name(self):
        good = in_clusters(0x80, "", [(48, 2)], 24 * 1024)
        named = in_clusters(0x80, "side", [(48, 2)], 24 * 1024)
        for attributes, told in (([good], -4), ([], -3), ([named], -3), ([named, good], -4), ([good, named], -4),
                                 ([here(0x80, "", bytes(100))], -3), ([here(0x80, "", b""), good], -3),
                                 ([good, here(0x80, "", b"")], -4), ([here(0x80, "side", b""), good], -4)):
            disk = sample()
            disk.add(0, attributes)
            self.assertEqual(answer(disk, "x"), told)

    def test_what_it_holds_must_be_so(self):
        for place, value, many in ((16, 1, 8), (24, 46, 8), (24, 48, 8), (48, 24 * 1024 + 1, 8), (56, 24 * 1024 + 1, 8),
                                   (32, 65535, 2), (12, 1, 2), (64, 0, 1), (64, 0x10, 1)):
            disk = sample()
            put(disk.records[0], attribute_place(disk.records[0], 0x80) + place, value, many)
            self.assertEqual(answer(disk, "x"), -3, place)
            self.assertEqual(answer(disk, "/"), -3, place)

    def test_record_0_may_be_a_folder_too(self):
        disk = sample()
        disk.records[0][22] = 3
        self.assertEqual(answer(disk), SAMPLE_TOP)

    def test_records_shorter_than_a_cluster(self):
        disk = Disk(per_cluster=8, clusters=24, record_count=9, block_length=512)
        disk.add_folder(TOP, [entry("f", 8)])
        disk.add_file(8, b"four")
        self.assertEqual(answer(disk), "f 4\n")


if __name__ == "__main__":
    unittest.main()
