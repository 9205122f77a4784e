"""The marks of records and blocks."""

import unittest

from volume_images import (Disk, SAMPLE_DEEP, SAMPLE_FOLDER, SAMPLE_TOP, SECTOR, TOP, answer, entry, last, marked, put,
                           sample)

# Where a record or block is, in which call it is looked at, and in which it is not.
LOOKED_AT = (
    ("record", 0, ("/", "/deep", "x"), ()),
    ("record", 5, ("/", "/deep", "x"), ()),
    ("record", 17, ("/", "/folder", "/folder/inner"), (("/deep", SAMPLE_DEEP),)),
    ("record", 22, ("/folder", "/folder/note"), (("/", SAMPLE_TOP), ("/folder/inner", ""))),
    ("block", 0, ("/deep", "/deep/m", "/deep/z1"), (("/", SAMPLE_TOP), ("/folder", SAMPLE_FOLDER))),
    ("block", 2, ("/deep", "/deep/m", "/deep/a1"), (("/", SAMPLE_TOP), ("/folder", SAMPLE_FOLDER))),
)


def bytes_of(disk, sort, at):
    return disk.records[at] if sort == "record" else disk.blocks[16, at]


def place_of(disk, sort, at):
    return disk.record_place(at) if sort == "record" else disk.block_places[16, at]


class Wrong(unittest.TestCase):
    def assert_refused(self, image, refused, listed, note):
        for path in refused:
            self.assertEqual(answer(image, path), -3, (note, path))
        for path, told in listed:
            self.assertEqual(answer(image, path), told, (note, path))

    def test_how_many(self):
        for sort, at, refused, listed in LOOKED_AT:
            for told in (0, 1, 2, 4, 3 + 256, 65535):
                disk = sample()
                put(bytes_of(disk, sort, at), 6, told, 2)
                self.assert_refused(disk.image(), refused, listed, (sort, at, told))

    def test_place(self):
        for sort, at, refused, listed in LOOKED_AT:
            for place in (0, 2, 4, 6, 7, 49, 41, 506, 508, 510, 512, 1018, 48 + 1024, 65535, 65534):
                disk = sample()
                image = disk.image()
                begin = place_of(disk, sort, at)
                # The marks are there too, if they fit, so that the place alone is wrong.
                data = image[begin:begin + 1024]
                old = 48 if sort == "record" else 40
                if 8 <= place <= 1018:
                    data[place:place + 6] = data[old:old + 6]
                    data[510:512] = data[1022:1024] = data[place:place + 2]
                data[4:6] = [place % 256, place // 256]
                image[begin:begin + 1024] = data
                self.assert_refused(image, refused, listed, (sort, at, place))

    def test_mark_missing_in_a_sector(self):
        for sort, at, refused, listed in LOOKED_AT:
            for place in (510, 511, 1022, 1023):
                disk = sample()
                image = disk.image()
                image[place_of(disk, sort, at) + place] ^= 1
                self.assert_refused(image, refused, listed, (sort, at, place))

    def test_mark_itself_changed(self):
        for sort, at, refused, listed in LOOKED_AT:
            disk = sample()
            image = disk.image()
            image[place_of(disk, sort, at) + (48 if sort == "record" else 40)] ^= 0x80
            self.assert_refused(image, refused, listed, (sort, at))


class Right(unittest.TestCase):
    def test_least_and_greatest_place(self):
        for place in (8, 10, 504):
            disk = sample()
            put(disk.records[22], 4, place, 2)
            self.assertEqual(answer(disk, "/folder"), SAMPLE_FOLDER, place)
        for place in (8, 10, 504):
            disk = sample()
            put(disk.blocks[16, 0], 4, place, 2)
            self.assertEqual(answer(disk, "/deep"), SAMPLE_DEEP, place)

    def test_greatest_place_and_one_behind_by_length(self):
        for length, greatest in ((512, 506), (1024, 504), (2048, 500), (4096, 492)):
            for place, told in ((greatest, "f 3\n"), (greatest + 2, -3), (greatest + 1, -3)):
                disk = Disk(record_length=length, record_count=8)
                disk.add_folder(TOP, [entry("f", 6)])
                disk.add_file(6, b"abc")
                put(disk.records[6], 4, place, 2)
                self.assertEqual(answer(disk), told, (length, place))

    # Zeros are marks too: where all around is 0 they stand at every place, so that the place alone is wrong.
    def test_greatest_place_and_one_behind_among_zeros(self):
        for length, greatest in ((512, 506), (1024, 504), (2048, 500), (4096, 492)):
            for place, told in ((greatest, "f 3\n"), (greatest + 2, -3), (greatest - 2, "f 3\n"), (greatest - 1, -3)):
                disk = Disk(record_length=length, record_count=8)
                disk.add_folder(TOP, [entry("f", 6)])
                disk.add_file(6, b"abc")
                put(disk.records[6], 4, place, 2)
                image = disk.image()
                begin = disk.record_place(6)
                image[begin:begin + length] = disk.records[6]
                self.assertEqual(answer(image), told, (length, place))

    def test_greatest_place_in_a_block_among_zeros(self):
        for length, greatest in ((512, 506), (1024, 504), (8192, 476), (65536, 252)):
            for place, told in ((greatest, "f 3\n"), (greatest + 2, -3), (greatest - 2, "f 3\n"), (greatest - 1, -3)):
                disk = Disk(block_length=length, record_count=8)
                disk.add_folder(TOP, [last(0)], {0: [entry("f", 6)]})
                disk.add_file(6, b"abc")
                put(disk.blocks[TOP, 0], 4, place, 2)
                image = disk.image()
                begin = disk.block_places[TOP, 0]
                image[begin:begin + length] = disk.blocks[TOP, 0]
                self.assertEqual(answer(image), told, (length, place))

    def test_any_mark(self):
        disk = sample()
        image = disk.image()
        for mark in (b"\0\0", b"\xff\xff", b"\x01\0", b"\0\x80"):
            begin = disk.record_place(22)
            image[begin:begin + 1024] = marked(disk.records[22], mark)
            self.assertEqual(answer(image, "/folder"), SAMPLE_FOLDER)

    def test_two_marks_are_looked_for_in_each_record_by_itself(self):
        disk = sample()
        image = disk.image()
        for at, mark in ((5, b"\x01\x01"), (17, b"\x02\x02"), (22, b"\x03\x03")):
            begin = disk.record_place(at)
            image[begin:begin + 1024] = marked(disk.records[at], mark)
        self.assertEqual(answer(image, "/folder"), SAMPLE_FOLDER)

    def test_last_bytes_of_a_records_sectors_are_put_back(self):
        for length in (1024, 2048, 4096):
            many = (length - 350) // 592
            names = ["%03d%s" % (step, "abcdefghij"[step % 10] * 247) for step in range(many)]
            disk = Disk(record_length=length, record_count=8)
            disk.add_folder(TOP, [entry(name, 6) for name in names])
            disk.add_file(6)
            self.assertTrue(any(disk.records[TOP][510:512]))
            self.assertEqual(answer(disk), "".join(name + " 0\n" for name in names))

    def test_last_bytes_of_a_blocks_sectors_are_put_back(self):
        for length in (1024, 2048, 4096, 65536):
            many = length // 600
            names = ["%03d%s" % (step, "abcdefghij"[step % 10] * 247) for step in range(many)]
            disk = Disk(block_length=length, record_count=8, clusters=170)
            disk.add_folder(TOP, [last(0)], {0: [entry(name, 6) for name in names]})
            disk.add_file(6)
            self.assertTrue(any(disk.blocks[TOP, 0][510:512]))
            self.assertEqual(answer(disk), "".join(name + " 0\n" for name in names))

    def test_a_record_of_one_sector(self):
        disk = Disk(record_length=SECTOR, record_count=8)
        disk.add_folder(TOP, [entry("f", 6)])
        disk.add_file(6, b"abc")
        self.assertEqual(answer(disk), "f 3\n")
        for told in (1, 3):
            put(disk.records[6], 6, told, 2)
            self.assertEqual(answer(disk), -3)


if __name__ == "__main__":
    unittest.main()
