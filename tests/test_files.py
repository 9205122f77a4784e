"""A file's bytes: which of them are handed out."""

import random
import unittest

from strictvolume.volumes import file
from volume_images import (Disk, MOST, SECTOR, TOP, answer, as_bytes, entry, file_answer, here, in_clusters, last, put,
                           sample)

PATH = "/folder/note"
# From here on the sample's clusters are free; each byte that stands there says where it is, and none is 0.
FREE = 100
PATTERN = bytes((place * 7 + place // SECTOR * 13) % 255 + 1 for place in range(190 * SECTOR))


def disk_with(attributes):
    disk = sample()
    disk.store(FREE, PATTERN[FREE * SECTOR:])
    disk.add(22, attributes, uses=9)
    return disk


def image_with(runs, size, begun=None, flags=0):
    return disk_with([in_clusters(0x80, "", runs, size, begun, flags=flags)]).image()


def bytes_of(runs, size, begun=None):
    """What the runs tell, put together byte by byte."""
    whole = b""
    for clusters, begin in runs:
        if begin is None:
            whole += bytes(clusters * SECTOR)
        else:
            whole += PATTERN[begin * SECTOR:(begin + clusters) * SECTOR]
    stored = size if begun is None else begun
    return whole[:stored] + bytes(size - stored)


class Case(unittest.TestCase):
    def assert_told(self, image, content, start=0, most=MOST, path=PATH):
        self.assertEqual(file_answer(image, path, start, most), content, (start, most))

    def assert_parts(self, image, content, starts, mosts):
        for start in starts:
            for most in mosts:
                self.assert_told(image, content[start:start + most], start, most)


class StandingHere(Case):
    def test_by_the_letter(self):
        image = sample().image()
        self.assertEqual(file(0, 5, image, as_bytes("/hello.txt")), [5, 104, 101, 108, 108, 111])
        self.assertEqual(file(1, 3, image, as_bytes("/hello.txt")), [3, 101, 108, 108])
        self.assertEqual(file(5, 3, image, as_bytes("/hello.txt")), [0])

    def test_each_byte(self):
        content = bytes(range(256))
        image = disk_with([here(0x80, "", content)]).image()
        self.assert_told(image, content)
        for start in range(256):
            self.assert_told(image, bytes([start]), start, 1)

    def test_all_parts(self):
        content = b"strictly"
        image = disk_with([here(0x80, "", content)]).image()
        self.assert_parts(image, content, range(11), (0, 1, 2, 7, 8, 9, MOST))

    def test_where_it_stands(self):
        # Anywhere within the attribute, over its head too.
        attribute = bytearray(here(0x80, "", b"0123456789abcdef"))
        for place, many in ((24, 16), (30, 5), (39, 1), (0, 40), (4, 4), (40, 0)):
            put(attribute, 16, many, 4)
            put(attribute, 20, place, 2)
            content = bytes(attribute[place:place + many])
            self.assert_told(disk_with([bytes(attribute)]), content)

    def test_over_the_end_of_a_sector(self):
        # There stands a mark instead, which is taken out.
        content = bytes(range(1, 251)) * 3
        self.assert_told(disk_with([here(0x80, "", content)]), content)
        self.assert_told(disk_with([here(0x80, "", content)]), content[300:500], 300, 200)


class InRuns(Case):
    def test_one(self):
        runs = [(3, 120)]
        content = bytes_of(runs, 1300)
        image = image_with(runs, 1300)
        self.assert_told(image, content)
        self.assertEqual(content, PATTERN[120 * SECTOR:120 * SECTOR + 1300])
        self.assert_parts(image, content, (0, 1, 511, 512, 513, 1023, 1024, 1298), (1, 2, 511, 512, 513, 1300))

    def test_several(self):
        runs = [(1, 110), (2, 130), (1, 150)]
        content = bytes_of(runs, 2048)
        image = image_with(runs, 2048)
        self.assert_told(image, content)
        self.assert_parts(image, content, (0, 1, 500, 511, 512, 513, 1000, 1024, 1535, 1536, 1537, 2047),
                          (1, 2, 12, 512, 513, 1024, 1025, 2048))

    def test_out_of_order(self):
        for runs in ([(1, 150), (2, 110), (1, 130)], [(2, 188), (2, 186)], [(1, 102), (1, 101), (1, 100), (1, 189)]):
            size = sum(many for many, begin in runs) * SECTOR
            content = bytes_of(runs, size)
            image = image_with(runs, size)
            self.assert_told(image, content)
            self.assert_parts(image, content, (0, 511, 512, 1000, size - 1), (1, 2, 600, size))

    def test_the_same_place_twice(self):
        runs = [(2, 120), (1, 121), (2, 120)]
        self.assert_told(image_with(runs, 2500), bytes_of(runs, 2500))

    def test_zeros_between(self):
        runs = [(1, 120), (2, None), (1, 121)]
        content = bytes_of(runs, 2048)
        image = image_with(runs, 2048)
        self.assertEqual(content[512:1536], bytes(1024))
        self.assert_told(image, content)
        self.assert_parts(image, content, (0, 510, 512, 600, 1535, 1536), (1, 2, 3, 1024, 1030, 2048))
        self.assert_told(image_with(runs, 2048, flags=0x8000), content)

    def test_zeros_first_and_at_the_end(self):
        for runs in ([(2, None), (1, 120)], [(1, 120), (2, None)], [(3, None)], [(1, None), (1, 120), (1, None)],
                     [(1, None), (2, None)], [(1, 120), (1, None), (1, None), (1, 118)]):
            size = sum(many for many, begin in runs) * SECTOR - 5
            content = bytes_of(runs, size)
            image = image_with(runs, size)
            self.assert_told(image, content)
            self.assert_parts(image, content, (0, 511, 512, 1024, size - 1), (1, 2, 700, size))

    def test_each_byte_by_itself(self):
        runs = [(1, 130), (1, None), (1, 110)]
        content = bytes_of(runs, 1400)
        image = image_with(runs, 1400)
        for start in range(0, 1400):
            self.assertEqual(file(start, 1, image, as_bytes(PATH)), [1, content[start]])

    def test_the_last_clusters_of_the_volume(self):
        self.assert_told(image_with([(1, 189), (1, 188)], 1024), bytes_of([(1, 189), (1, 188)], 1024))

    def test_the_first_clusters_of_the_volume(self):
        image = image_with([(4, 0)], 2048)
        self.assert_told(image, bytes(image[:2048]))

    def test_longer_clusters(self):
        for per_cluster in (2, 4, 8):
            disk = sample(per_cluster=per_cluster, clusters=320 // per_cluster)
            cluster = per_cluster * SECTOR
            first = 320 // per_cluster - 4
            stored = bytes((place * 7 + place // SECTOR * 13) % 255 + 1 for place in range(4 * cluster))
            disk.store(first, stored)
            size = 4 * cluster - 3
            disk.add(22, [in_clusters(0x80, "", [(1, first + 3), (1, None), (2, first)], size)], uses=9)
            content = (stored[3 * cluster:] + bytes(cluster) + stored[:2 * cluster])[:size]
            image = disk.image()
            self.assert_told(image, content)
            self.assert_parts(image, content, (0, cluster - 1, cluster, 2 * cluster - 1, size - 1),
                              (1, 2, cluster, cluster + 1, size))

    def test_many_runs(self):
        runs = [(1, FREE + step * 37 % 90) for step in range(180)]
        content = bytes_of(runs, 180 * SECTOR)
        image = image_with(runs, 180 * SECTOR)
        self.assert_told(image, content)
        self.assert_told(image, content[511:90000], 511, 90000 - 511)

    def test_behind_the_file_nothing_of_its_clusters_is_told(self):
        for size in (1, 511, 513, 1023):
            self.assert_told(image_with([(2, 120)], size), bytes_of([(2, 120)], size))


class ByChance(Case):
    def test_parts_of_files(self):
        chance = random.Random(5)
        for turn in range(150):
            runs = [(chance.randrange(1, 4), chance.choice((None, chance.randrange(FREE, 187))))
                    for step in range(chance.randrange(1, 6))]
            room = sum(many for many, begin in runs) * SECTOR
            size = chance.choice((room, room - 1, chance.randrange(room + 1)))
            begun = chance.choice((size, 0, chance.randrange(size + 1)))
            content = bytes_of(runs, size, begun)
            image = image_with(runs, size, begun)
            for step in range(8):
                start = chance.choice((0, begun, size, chance.randrange(size + 2)))
                most = chance.choice((0, 1, MOST, chance.randrange(size + 2)))
                self.assert_told(image, content[start:start + most], start, most)


class Begun(Case):
    def test_fewer_than_there_are(self):
        runs = [(1, 130), (2, 110)]
        for begun in (0, 1, 2, 511, 512, 513, 1023, 1024, 1398, 1399, 1400):
            content = bytes_of(runs, 1400, begun)
            image = image_with(runs, 1400, begun)
            self.assert_told(image, content)
            starts = [each for each in (0, begun - 2, begun - 1, begun, begun + 1, 1399) if each >= 0]
            self.assert_parts(image, content, starts, (0, 1, 2, 3, 600, 1400))

    def test_none(self):
        image = image_with([(3, 120)], 1500, 0)
        self.assert_told(image, bytes(1500))
        self.assert_told(image, bytes(500), 1000)
        self.assert_told(image, bytes(7), 512, 7)

    def test_both_sides(self):
        image = image_with([(2, 120)], 1000, 700)
        begin = 120 * SECTOR
        self.assert_told(image, PATTERN[begin + 690:begin + 700] + bytes(10), 690, 20)
        self.assert_told(image, PATTERN[begin + 690:begin + 700], 690, 10)
        self.assert_told(image, PATTERN[begin + 699:begin + 700] + b"\0", 699, 2)
        self.assert_told(image, bytes(20), 700, 20)
        self.assert_told(image, bytes(299), 701)
        self.assert_told(image, b"", 1000)


class Edges(Case):
    FILES = ((b"0123456789", [here(0x80, "", b"0123456789")]),
             (bytes_of([(2, 140), (1, 120)], 1500), [in_clusters(0x80, "", [(2, 140), (1, 120)], 1500)]),
             (bytes_of([(1, 140)], 512), [in_clusters(0x80, "", [(1, 140)], 512)]),
             (bytes_of([(1, 140)], 1), [in_clusters(0x80, "", [(1, 140)], 1)]),
             (bytes(700), [in_clusters(0x80, "", [(2, None)], 700)]))

    def each_file(self):
        for content, attributes in self.FILES:
            yield disk_with(attributes).image(), content, len(content)

    def test_start(self):
        for image, content, size in self.each_file():
            for most in (1, 2, size, MOST):
                self.assert_told(image, content[:most], 0, most)
                self.assert_told(image, content[-1:], size - 1, most)
                for start in (size, size + 1, size + 511, size + 512, 100000, 2147483647):
                    self.assert_told(image, b"", start, most)

    def test_most(self):
        for image, content, size in self.each_file():
            for start in (0, size // 2, size - 1, size, size + 1, 2147483647):
                left = content[start:]
                self.assert_told(image, b"", start, 0)
                for most in (1, len(left), max(len(left) - 1, 0), len(left) + 1, MOST - 1, MOST):
                    self.assert_told(image, left[:most], start, most)

    def test_more_than_most_is_no_refusal(self):
        self.assertEqual(file(0, 4, sample().image(), as_bytes("/hello.txt")), [4] + list(b"hell"))
        self.assertEqual(file(0, 0, sample().image(), as_bytes("/hello.txt")), [0])

    def test_no_bytes(self):
        for attributes in ([here(0x80, "", b"")], [in_clusters(0x80, "", [(2, 120)], 0)], [in_clusters(0x80, "", [], 0)],
                           [in_clusters(0x80, "", [(5, None)], 0)], []):
            image = disk_with(attributes).image()
            for start in (0, 1, 512, 2147483647):
                for most in (0, 1, 512, MOST):
                    self.assert_told(image, b"", start, most)

    def test_no_clusters(self):
        self.assertEqual(file(0, 9, image_with([], 0), as_bytes(PATH)), [0])
        for size, begun in ((1, 1), (1, 0), (512, 512)):
            self.assert_told(image_with([], size, begun), -3)
        one_told = in_clusters(0x80, "", b"\0", 0, clusters=1)
        self.assert_told(disk_with([one_told]), -3)
        run_told = in_clusters(0x80, "", [(1, 120)], 0, clusters=0)
        self.assert_told(disk_with([run_told]), -3)


class FarZeros(Case):
    """Files that tell of far more bytes than the image has."""

    GREATEST = 2 ** 32 - 1

    def test_near_the_end(self):
        for size in (2147483647, 2147483646, 2147483000, 99999999):
            image = image_with([(size // SECTOR + 1, None)], size)
            for less, most, many in ((0, 9, 0), (1, 9, 1), (1, 0, 0), (5, 9, 5), (5, 5, 5), (5, 4, 4), (1000, MOST, 1000)):
                self.assert_told(image, bytes(many), size - less, most)

    def test_from_the_greatest_number_on(self):
        for size, many in ((2147483646, 0), (2147483647, 0), (2147483648, 1), (2147483650, 3), (2 ** 40, 100)):
            image = image_with([(size // SECTOR + 1, None)], size)
            self.assert_told(image, bytes(many), 2147483647, 100)

    def test_several_runs_of_the_greatest_length(self):
        size = 3 * self.GREATEST * SECTOR
        image = image_with([(self.GREATEST, None)] * 3, size)
        self.assert_told(image, bytes(12), 2147483647, 12)
        self.assert_told(image, bytes(12), 0, 12)

    def test_what_is_stored_behind_them(self):
        # The run that is stored begins 512 bytes ahead of 2 to the power of 31.
        runs = [(4194303, None), (2, 120)]
        begin = 4194303 * SECTOR
        image = image_with(runs, begin + 1000)
        stored = PATTERN[120 * SECTOR:120 * SECTOR + 1000]
        self.assert_told(image, bytes(6) + stored[:14], begin - 6, 20)
        self.assert_told(image, stored, begin)
        self.assert_told(image, stored[511:], 2147483647)
        self.assert_told(image, stored[511:512], 2147483647, 1)

    def test_what_is_stored_ahead_of_them(self):
        image = image_with([(1, 120), (self.GREATEST, None)], 2 ** 32 * SECTOR)
        self.assert_told(image, PATTERN[120 * SECTOR:121 * SECTOR] + bytes(100), 0, 612)
        self.assert_told(image, bytes(30), 2147483647, 30)

    def test_begun_far_ahead_of_the_end(self):
        runs = [(2, 120), (self.GREATEST, None)]
        image = image_with(runs, 2 ** 40, 600)
        self.assert_told(image, PATTERN[120 * SECTOR + 590:120 * SECTOR + 600] + bytes(10), 590, 20)
        self.assert_told(image, bytes(20), 2147483647, 20)

    def test_as_many_as_an_answer_may_have(self):
        image = image_with([(self.GREATEST, None)], 2 ** 40)
        told = file(7, 999998, image, as_bytes(PATH))
        self.assertEqual(len(told), 999999)
        self.assertEqual(told[0], 999998)
        self.assertFalse(any(told[1:]))


class WhichAttribute(Case):
    def test_none(self):
        self.assertEqual(file(0, 100, disk_with([]).image(), as_bytes(PATH)), [0])
        self.assertEqual(file(1, 100, disk_with([]).image(), as_bytes(PATH)), [0])

    def test_one_with_a_name_alone(self):
        for side in (here(0x80, "side", b"beside"), in_clusters(0x80, "side", [(1, 120)], 100)):
            self.assert_told(disk_with([side]), b"")

    def test_beside_one_with_a_name(self):
        own = here(0x80, "", b"own")
        for side in (here(0x80, "side", b"beside"), in_clusters(0x80, "side", [(1, 120)], 100), here(0x80, "a", b"")):
            self.assert_told(disk_with([side, own]), b"own")
            self.assert_told(disk_with([own, side]), b"own")

    def test_other_kinds(self):
        others = [here(kind, "", b"other") for kind in (0x10, 0x40, 0x7F, 0x81, 0x90, 0x180, 0x80 + 2 ** 24)]
        self.assert_told(disk_with(others), b"")
        self.assert_told(disk_with(others + [here(0x80, "", b"own")]), b"own")

    def test_the_first_counts(self):
        first = here(0x80, "", b"first")
        second = in_clusters(0x80, "", [(1, 120)], 3)
        self.assert_told(disk_with([first, second]), b"first")
        self.assert_told(disk_with([second, first]), bytes_of([(1, 120)], 3))
        self.assert_told(disk_with([here(0x80, "", b""), first]), b"")

    def test_of_one_with_a_name_nothing_is_looked_at(self):
        wrong = bytearray(in_clusters(0x80, "side", [(1, 120)], 100))
        put(wrong, 24, 99, 8)
        self.assert_told(disk_with([bytes(wrong), here(0x80, "", b"own")]), b"own")
        self.assert_told(disk_with([bytes(wrong)]), b"")

    def test_a_file_may_have_entries_that_do_not_count(self):
        disk = sample()
        disk.add_folder(17, [entry("inner", 18)], uses=4, attributes=[here(0x80, "", b"a file")])
        disk.records[17][22] = 1
        self.assertEqual(file_answer(disk, "/folder"), b"a file")


class Found(Case):
    def test_where_files_are(self):
        image = sample().image()
        stored = bytes(range(250)) * 5
        for path, content in (("/hello.txt", b"hello"), ("/folder/note", b"a note"), ("/deep/a1", b"hello"),
                              ("/deep/m", b""), ("/deep/z1", stored), ("/./hello.txt", b"hello"),
                              ("/././deep/z1", stored), ("/HELLO.TXT", b"hello"), ("/Folder/NoTe", b"a note"),
                              ("/DEEP/Z1", stored)):
            self.assertEqual(file_answer(image, path), content, path)

    def test_in_a_folder_of_a_folder(self):
        disk = sample()
        disk.add_folder(18, [entry("Far down", 23, 7)])
        disk.add_stored_file(23, b"found" * 300, uses=7)
        self.assertEqual(file_answer(disk, "/folder/inner/far down"), b"found" * 300)
        self.assertEqual(file_answer(disk, "/folder/inner/far down", 511, 6), (b"found" * 300)[511:517])

    def test_in_blocks_below_blocks(self):
        disk = sample()
        disk.add_folder(17, [entry("d", 19, below=0), last(6)],
                        {0: [entry("b", 22, 9, below=2), last(4)], 2: [entry("a", 19)], 4: [entry("c", 21)],
                         6: [entry("e", 20)]}, uses=4)
        for name, content in (("a", b"hello"), ("b", b"a note"), ("c", bytes(range(250)) * 5), ("d", b"hello"), ("e", b"")):
            self.assertEqual(file_answer(disk, "/folder/" + name), content, name)

    def test_by_a_name_of_dots(self):
        disk = sample()
        disk.add_folder(17, [entry(".", 19), entry("..", 22, 9)], uses=4)
        self.assertEqual(file_answer(disk, "/folder/."), b"hello")
        self.assertEqual(file_answer(disk, "/folder/.."), b"a note")

    def test_record_5_that_is_a_file(self):
        disk = sample()
        disk.add_file(TOP, b"the top")
        self.assertEqual(file_answer(disk, "/"), b"the top")
        self.assertEqual(file_answer(disk, "/", 4, 2), b"to")
        self.assertEqual(file_answer(disk, "/hello.txt"), -4)

    def test_the_records_themselves(self):
        # They are handed out as they stand there, with their marks.
        disk = sample()
        disk.add_folder(TOP, [entry("$MFT", 0)])
        image = disk.image()
        begin = 2 * SECTOR
        self.assertEqual(file_answer(image, "/$mft"), bytes(image[begin:begin + 24 * 1024]))

    def test_as_many_as_the_listing_says(self):
        image = sample().image()
        for folder in ("/", "/deep/", "/folder/"):
            for line in answer(image, folder.rstrip("/") or "/").splitlines():
                if not line.endswith("/"):
                    name, size = line.split(" ")
                    self.assertEqual(len(file_answer(image, folder + name)), int(size))

    def test_each_length_of_cluster_record_and_block(self):
        content = bytes((place * 7 + place // SECTOR * 13) % 255 + 1 for place in range(1700))
        for per_cluster in (1, 2, 8, 16):
            for record_length in (512, 1024, 4096):
                for block_length in (512, 1024, 4096):
                    needed = 12 * record_length + 4 * block_length + 20 * SECTOR
                    disk = Disk(per_cluster=per_cluster, record_length=record_length, block_length=block_length,
                                clusters=needed // (per_cluster * SECTOR) + 12, records_cluster=1, record_count=12)
                    disk.add_folder(TOP, [last(0)], {0: [entry("here", 6), entry("stored", 7)]})
                    disk.add_file(6, b"few")
                    disk.add_stored_file(7, content)
                    image = disk.image()
                    note = (per_cluster, record_length, block_length)
                    self.assertEqual(file_answer(image, "/here"), b"few", note)
                    self.assertEqual(file_answer(image, "/stored"), content, note)
                    self.assertEqual(file_answer(image, "/stored", 500, 700), content[500:1200], note)


if __name__ == "__main__":
    unittest.main()
