"""Records and their attributes."""

import unittest

from volume_images import (MOST, SAMPLE_DEEP, SAMPLE_TOP, TOP, answer, attribute_place, entry, here, in_clusters,
                           number, put, sample, up_to_8, wide)

# A record, the paths on whose way it is looked at, and paths that are listed all the same.
LOOKED_AT = (
    (0, ("/", "/deep", "/folder", "", "x"), ()),
    (5, ("/", "/deep", "/folder", "", "x"), ()),
    (17, ("/", "/folder", "/folder/", "/folder/note", "/folder/inner"), (("/deep", SAMPLE_DEEP), ("/nothing", -4))),
    (22, ("/folder", "/folder/note", "/folder/note/x"), (("/", SAMPLE_TOP), ("/folder/inner", ""))),
    (19, ("/", "/deep", "/hello.txt", "/hello.txt/x"), (("/folder/inner", ""), ("/deep/m", -5))),
)


def begin_of(data):
    return int.from_bytes(data[20:22], "little")


class RecordCase(unittest.TestCase):
    def assert_refused(self, change, note=None):
        for at, refused, listed in LOOKED_AT:
            disk = sample()
            change(disk.records[at])
            for path in refused:
                self.assertEqual(answer(disk, path), -3, (note, at, path))
            for path, told in listed:
                self.assertEqual(answer(disk, path), told, (note, at, path))

    def assert_taken(self, change, note=None):
        for at, refused, listed in LOOKED_AT:
            disk = sample()
            change(disk.records[at])
            for path in ("/", "/deep", "/folder", "/folder/inner"):
                self.assertEqual(answer(disk, path), answer(sample(), path), (note, at, path))

    def assert_refused_at(self, place, value, many):
        self.assert_refused(lambda data: put(data, place, value, many), (place, value))

    def assert_taken_at(self, place, value, many):
        self.assert_taken(lambda data: put(data, place, value, many), (place, value))


class Head(RecordCase):
    def test_letters(self):
        for place in range(4):
            self.assert_refused_at(place, ord("x"), 1)
        self.assert_refused_at(0, int.from_bytes(b"BAAD", "little"), 4)
        self.assert_refused_at(0, int.from_bytes(b"file", "little"), 4)

    def test_it_is_used(self):
        for at, refused, listed in LOOKED_AT:
            disk = sample()
            disk.records[at][22] &= 0xFE
            for path in refused:
                self.assertEqual(answer(disk, path), -3, (at, path))
            for path, told in listed:
                self.assertEqual(answer(disk, path), told, (at, path))

    def test_other_flags_are_not_looked_at(self):
        def change(data):
            data[22] |= 0xFC
            data[23] = 0xFF
        self.assert_taken(change)

    def test_attributes_begin_at_a_multiple_of_8(self):
        # Everything is moved along, so that the place alone is wrong.
        def moved(by):
            def change(data):
                begin = begin_of(data)
                count = int.from_bytes(data[24:28], "little")
                data[begin + by:count + by] = data[begin:count]
                put(data, 20, begin + by, 2)
                put(data, 24, count + by, 4)
            return change
        for by in (1, 2, 4, 6, 7):
            self.assert_refused(moved(by), by)
        for by in (8, 16, 64):
            self.assert_taken(moved(by), by)

    def test_attributes_begin_within_what_counts(self):
        for place in (1024, 1016, 2048, 65528, 56 + 1024):
            self.assert_refused_at(20, place, 2)

    def test_attributes_may_begin_far_behind(self):
        disk = sample()
        data = disk.records[22]
        count = int.from_bytes(data[24:28], "little")
        data[56 + 512:count + 512] = data[56:count]
        data[56:512] = bytes(512 - 56)
        put(data, 20, 56 + 512, 2)
        put(data, 24, count + 512, 4)
        self.assertEqual(answer(disk, "/folder"), "inner/\nnote 6\n")

    def test_what_counts_is_within_the_record(self):
        self.assert_taken_at(24, 1024, 4)
        for many in (1025, 1026, 1032, 2048, 1024 + 2 ** 16, 1024 + 2 ** 24, 2 ** 31, 2 ** 32 - 1):
            self.assert_refused_at(24, many, 4)

    def test_the_closing_four_bytes_count(self):
        def counted(less):
            def change(data):
                count = int.from_bytes(data[24:28], "little")
                put(data, 24, count - less, 4)
            return change
        self.assert_taken(counted(4))
        for less in (5, 6, 7, 8, 9, 16):
            self.assert_refused(counted(less), less)
        for many in (0, 1, 4, 48, 56):
            self.assert_refused_at(24, many, 4)

    def test_eight_bytes_0(self):
        for place in range(32, 40):
            self.assert_refused_at(place, 1, 1)
            self.assert_refused_at(place, 0x80, 1)

    def test_what_is_not_looked_at(self):
        def change(data):
            for place in list(range(8, 16)) + [18, 19] + list(range(28, 32)) + list(range(40, 48)):
                data[place] ^= 0xFF
        self.assert_taken(change)

    def test_behind_what_counts_nothing_is_looked_at(self):
        def change(data):
            count = int.from_bytes(data[24:28], "little")
            data[count - 4:] = b"\xa5" * (len(data) - count + 4)
        self.assert_taken(change)


class Uses(unittest.TestCase):
    def test_another_number_of_uses(self):
        for uses in (0, 8, 10, 9 + 256, 65535):
            disk = sample()
            put(disk.records[22], 16, uses, 2)
            self.assertEqual(answer(disk, "/folder"), -3)
            self.assertEqual(answer(disk, "/folder/note"), -3)
            self.assertEqual(answer(disk, "/folder/inner"), "")
            self.assertEqual(answer(disk, "/"), SAMPLE_TOP)

    def test_any_number_that_both_tell(self):
        for uses in (0, 1, 255, 256, 65535):
            disk = sample()
            disk.add_folder(17, [entry("note", 22, uses)], uses=4)
            disk.add_file(22, b"", uses)
            self.assertEqual(answer(disk, "/folder"), "note 0\n")

    def test_uses_of_the_top_folder_are_asked_of_an_entry_alone(self):
        disk = sample()
        put(disk.records[TOP], 16, 77, 2)
        self.assertEqual(answer(disk), SAMPLE_TOP)
        self.assertEqual(answer(disk, "/."), -3)
        self.assertEqual(answer(disk, "/deep"), SAMPLE_DEEP)


class AttributeHead(RecordCase):
    def assert_refused_first(self, place, value, many):
        self.assert_refused(lambda data: put(data, begin_of(data) + place, value, many), (place, value))

    def assert_taken_first(self, place, value, many):
        self.assert_taken(lambda data: put(data, begin_of(data) + place, value, many), (place, value))

    def test_length(self):
        for length in (0, 8, 16, 23, 25, 28, 68, 76, 72 + 2 ** 16, 72 + 2 ** 24, 2 ** 31, 2 ** 32 - 8, 1024 - 56 + 8):
            self.assert_refused_first(4, length, 4)

    def test_least_length(self):
        def change(data):
            begin = begin_of(data)
            count = int.from_bytes(data[24:28], "little")
            least = number(0x77, 4) + number(24, 4) + bytes(16)
            data[begin:count + 24] = least + data[begin:count]
            put(data, 24, count + 24, 4)
        self.assert_taken(change)

    def test_it_stands_within_what_counts(self):
        # The closing bytes lie within the attribute: it has to end ahead of what counts, with room for more.
        def change(data):
            begin = begin_of(data)
            count = int.from_bytes(data[24:28], "little")
            put(data, begin + 4, count - begin, 4)
        self.assert_refused(change)

    def test_here_or_in_clusters(self):
        for told in (2, 3, 128, 255):
            self.assert_refused_first(8, told, 1)

    def test_kind_20(self):
        self.assert_refused_first(0, 0x20, 4)
        self.assert_taken_first(0, 0x21, 4)
        self.assert_taken_first(0, 0x1F, 4)
        self.assert_taken_first(0, 0x20 + 256, 4)
        self.assert_taken_first(0, 0, 4)

    def test_kind_20_behind_the_others(self):
        disk = sample()
        disk.add(22, [here(0x80, "", b"a note"), here(0x20, "", b"")], 9)
        self.assertEqual(answer(disk, "/folder"), -3)
        disk.add(22, [here(0x80, "", b"a note"), here(0x20, "named", b"")], 9)
        self.assertEqual(answer(disk, "/folder"), -3)

    def test_flags_of_one_that_stands_here(self):
        for flags in (1, 2, 0xFF, 0x100, 0x4000, 0x8000, 0x8001, 0xFFFF):
            self.assert_refused_first(12, flags, 2)

    def test_flags_of_one_in_clusters(self):
        for flags, told in ((0, SAMPLE_DEEP), (0x8000, SAMPLE_DEEP), (1, -3), (0x4000, -3), (0x8001, -3), (0xC000, -3),
                            (0x80, -3)):
            disk = sample()
            put(disk.records[21], attribute_place(disk.records[21], 0x80) + 12, flags, 2)
            self.assertEqual(answer(disk, "/deep"), told, flags)
            self.assertEqual(answer(disk, "/deep/z1"), -5 if told != -3 else -3, flags)
            self.assertEqual(answer(disk, "/"), SAMPLE_TOP)

    def test_name_within_the_attribute(self):
        # The first attribute has 72 bytes.
        for many, place in ((1, 70), (1, 0), (4, 64), (24, 24), (36, 0), (24, 23)):
            self.assert_taken(lambda data: self.name_told(data, many, place), (many, place))
        for many, place in ((1, 71), (1, 72), (4, 65), (24, 25), (25, 24), (37, 0), (255, 24), (1, 65535)):
            self.assert_refused(lambda data: self.name_told(data, many, place), (many, place))

    def name_told(self, data, many, place):
        self.assertEqual(data[begin_of(data) + 4], 72)
        data[begin_of(data) + 9] = many
        put(data, begin_of(data) + 10, place, 2)

    def test_place_of_a_name_without_letters(self):
        for place in (0, 71, 72, 73, 65535):
            self.assert_taken(lambda data: self.name_told(data, 0, place), place)

    def test_what_is_not_looked_at(self):
        self.assert_taken_first(14, 0xFFFF, 2)
        self.assert_taken_first(22, 0xFFFF, 2)

    def test_what_an_attribute_that_is_not_needed_holds(self):
        self.assert_taken_first(16, 2 ** 32 - 1, 4)
        self.assert_taken_first(20, 65535, 2)
        self.assert_taken_first(8, 1, 1)


class WhichCounts(unittest.TestCase):
    def size_told(self, attributes):
        disk = sample()
        disk.add_folder(17, [entry("note", 22)], uses=4)
        disk.add(22, attributes)
        return answer(disk, "/folder")

    def test_the_first_of_a_kind_and_name(self):
        self.assertEqual(self.size_told([here(0x80, "", b"abc"), here(0x80, "", b"abcdef")]), "note 3\n")
        self.assertEqual(self.size_told([here(0x80, "", b"abcdef"), here(0x80, "", b"abc")]), "note 6\n")

    def test_behind_the_first_nothing_is_held(self):
        wrong = bytearray(here(0x80, "", b"abc"))
        put(wrong, 16, 255, 4)
        self.assertEqual(self.size_told([here(0x80, "", b"abc"), bytes(wrong)]), "note 3\n")
        self.assertEqual(self.size_told([bytes(wrong), here(0x80, "", b"abc")]), -3)

    def test_a_name_makes_another(self):
        self.assertEqual(self.size_told([here(0x80, "side", b"abcdef"), here(0x80, "", b"abc")]), "note 3\n")
        self.assertEqual(self.size_told([here(0x80, "side", b"abcdef")]), "note 0\n")
        self.assertEqual(self.size_told([here(0x81, "", b"ab"), here(0x180, "", b"ab")]), "note 0\n")
        self.assertEqual(self.size_told([here(0x80 + 2 ** 24, "", b"ab")]), "note 0\n")

    def test_without_the_attribute_a_file_has_nothing(self):
        self.assertEqual(self.size_told([]), "note 0\n")

    def test_the_first_folder_attribute_counts(self):
        disk = sample()
        disk.add_folder(17, [entry("one", 22, 9)], uses=4)
        other = sample()
        other.add_folder(17, [entry("two", 22, 9)], uses=4)
        place = attribute_place(other.records[17], 0x90, "$I30")
        length = int.from_bytes(other.records[17][place + 4:place + 8], "little")
        disk.add_folder(17, [entry("one", 22, 9)], uses=4, attributes=[bytes(other.records[17][place:place + length])])
        self.assertEqual(answer(disk, "/folder"), "one 6\n")

    def test_the_folders_name_is_taken_letter_by_letter(self):
        for name in ("$i30", "$I3", "$I300", "$I31", "", "I30$"):
            disk = sample()
            data = disk.records[17]
            place = attribute_place(data, 0x90, "$I30")
            length = int.from_bytes(data[place + 4:place + 8], "little")
            content = int.from_bytes(data[place + 16:place + 20], "little")
            held = bytes(data[place + 32:place + 32 + content])
            self.assertEqual(length, up_to_8(32 + content))
            disk.add(17, [here(0x90, name, held)], 4, folder=True)
            self.assertEqual(answer(disk, "/folder"), -3, name)
            self.assertEqual(answer(disk, "/"), SAMPLE_TOP, name)
            disk.add(17, [here(0x90, name, b""), here(0x90, "$I30", held)], 4, folder=True)
            self.assertEqual(answer(disk, "/folder"), "inner/\nnote 6\n", name)

    def test_a_name_may_stand_anywhere_within(self):
        data = bytearray(here(0x90, "$I30", b""))
        disk = sample()
        record = disk.records[17]
        place = attribute_place(record, 0x90, "$I30")
        length = int.from_bytes(record[place + 4:place + 8], "little")
        longer = record[place:place + length] + wide("$I30")
        put(longer, 4, length + 8, 4)
        put(longer, 10, length, 2)
        longer[24:32] = bytes(8)
        self.assertEqual(len(data), 32)
        disk.add(17, [bytes(longer)], 4, folder=True)
        self.assertEqual(answer(disk, "/folder"), "inner/\nnote 6\n")


class Numbers(unittest.TestCase):
    """Which records there are: the sample holds 24."""

    def told(self, at):
        disk = sample()
        disk.add_folder(17, [entry("x", at, 6)], uses=4)
        disk.add_file(23, b"12", uses=6)
        return answer(disk, "/folder")

    def test_the_last_and_the_first_that_there_is_none_of(self):
        self.assertEqual(self.told(23), "x 2\n")
        for at in (24, 25, 23 + 2 ** 16, 23 + 2 ** 32, 23 + 2 ** 40, 2 ** 48 - 1):
            self.assertEqual(self.told(at), -3, at)

    def test_a_record_that_was_never_written(self):
        self.assertEqual(self.told(9), -3)

    def test_record_0_by_an_entry(self):
        disk = sample()
        disk.add_folder(TOP, [entry("$MFT", 0)])
        self.assertEqual(answer(disk), "$MFT 24576\n")

    def test_what_is_held_ends_within_the_last_record(self):
        for size, told in ((24 * 1024, "x 2\n"), (24 * 1024 - 1, -3), (23 * 1024, -3)):
            disk = sample()
            disk.add_folder(17, [entry("x", 23, 6)], uses=4)
            disk.add_file(23, b"12", uses=6)
            disk.add(0, [in_clusters(0x80, "", disk.records_runs, size)])
            self.assertEqual(answer(disk, "/folder"), told, size)
            self.assertEqual(answer(disk, "/"), SAMPLE_TOP)

    def test_of_record_5_there_must_be_one(self):
        disk = sample()
        disk.add(0, [in_clusters(0x80, "", disk.records_runs, 6 * 1024)])
        self.assertEqual(answer(disk, "x"), -4)
        disk.add(0, [in_clusters(0x80, "", disk.records_runs, 6 * 1024 - 1)])
        self.assertEqual(answer(disk, "x"), -3)


class RecordFive(unittest.TestCase):
    """It must be used, as every record; that it is a folder is what its bit 1 says, as of every record."""

    def told(self, flags, path, most=MOST):
        disk = sample()
        put(disk.records[TOP], 22, flags, 2)
        return answer(disk, path, most)

    def test_a_file_is_not_listed(self):
        for flags in (1, 0xFFFD):
            self.assertEqual(self.told(flags, "/"), -5, flags)
            self.assertEqual(self.told(flags, "/", 0), -5, flags)

    def test_no_path_goes_on_from_a_file(self):
        for path in ("/deep", "/nothing", "/.", "//", "/folder/note", "/hello.txt"):
            self.assertEqual(self.told(1, path), -4, path)

    def test_a_path_that_does_not_begin_so(self):
        for path in ("", "x", "deep", "./"):
            self.assertEqual(self.told(1, path), -4, path)

    def test_a_file_needs_no_entries(self):
        disk = sample()
        disk.add_file(TOP, b"top")
        self.assertEqual(answer(disk, "/"), -5)
        self.assertEqual(answer(disk, "/deep"), -4)

    def test_a_folder_is_listed(self):
        self.assertEqual(self.told(3, "/"), SAMPLE_TOP)
        self.assertEqual(self.told(3, "/deep"), SAMPLE_DEEP)

    def test_it_must_be_used(self):
        for flags in (0, 2, 0xFFFE, 0xFFFC):
            for path in ("/", "/deep", "//", "x", ""):
                self.assertEqual(self.told(flags, path), -3, (flags, path))

    def test_a_file_that_is_not_so(self):
        disk = sample()
        disk.add_file(TOP, b"top")
        put(disk.records[TOP], 32, 1, 8)
        for path in ("/", "/deep", "//", "x", ""):
            self.assertEqual(answer(disk, path), -3, path)


if __name__ == "__main__":
    unittest.main()
