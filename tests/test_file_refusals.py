"""What `file` refuses, and which refusal is told where two are due."""

import unittest

from strictvolume.volumes import file
from volume_images import (MOST, TOP, answer, as_bytes, attribute_place, content_place, entry, entry_place, file_answer,
                           here, in_clusters, number, put, sample)

PATH = "/folder/note"


def told_of(attributes, start=0, most=MOST):
    disk = sample()
    disk.add(22, attributes, uses=9)
    return file_answer(disk, PATH, start, most)


def changed(attribute, place, value, many):
    data = bytearray(attribute)
    put(data, place, value, many)
    return bytes(data)


class OutOfBounds(unittest.TestCase):
    def setUp(self):
        self.image = sample().image()

    def test_start(self):
        for start in (-1, -2, -512, -2147483648):
            for most in (0, 1, MOST):
                self.assertEqual(file(start, most, self.image, as_bytes("/hello.txt")), [-2])
        self.assertEqual(file_answer(self.image, "/hello.txt", 0), b"hello")

    def test_most(self):
        for most in (-1, -2147483648, MOST + 1, 2147483647):
            for start in (0, 5, 2147483647):
                self.assertEqual(file(start, most, self.image, as_bytes("/hello.txt")), [-2])
        for most in (0, MOST):
            self.assertEqual(file_answer(self.image, "/hello.txt", 0, most), b"hello"[:most])

    def test_length_of_the_path(self):
        self.assertEqual(file_answer(self.image, "/." * 2042 + "/hello.txt"), b"hello")
        self.assertEqual(file_answer(self.image, "/" + "a" * 4095), -4)
        self.assertEqual(file_answer(self.image, "/" + "a" * 4096), -2)
        self.assertEqual(file_answer(self.image, "/." * 2044 + "/hello.txt"), -2)

    def test_length_of_the_image(self):
        longest = self.image + [0] * (MOST - len(self.image))
        self.assertEqual(file_answer(longest, "/hello.txt"), b"hello")
        longest.append(0)
        self.assertEqual(file_answer(longest, "/hello.txt"), -2)
        self.assertEqual(file_answer([], "/hello.txt"), -3)


class Order(unittest.TestCase):
    def setUp(self):
        self.image = sample().image()
        self.wrong = list(self.image)
        self.wrong[3] = 0

    def test_out_of_bounds_comes_first(self):
        for image in (self.image, self.wrong, []):
            for path in ("/hello.txt", "/", "/folder", "x", "", "/nothing", "/hello.txt/x"):
                self.assertEqual(file_answer(image, path, -1), -2)
                self.assertEqual(file_answer(image, path, 0, -1), -2)
                self.assertEqual(file_answer(image, path, 0, MOST + 1), -2)
                self.assertEqual(file_answer(image, path, -1, -1), -2)

    def test_a_wrong_image_comes_before_a_wrong_path(self):
        for path in ("/hello.txt", "/", "/folder", "x", "", "/nothing", "/hello.txt/x"):
            self.assertEqual(file_answer(self.wrong, path), -3, path)
            self.assertEqual(file_answer(self.wrong, path, 2147483647, 0), -3, path)

    def test_record_0_and_record_5_come_before_a_wrong_path(self):
        for at in (0, TOP):
            for place, value in ((0, 0), (22, 0), (32, 1), (20, 57)):
                disk = sample()
                put(disk.records[at], place, value, 1)
                for path in ("/hello.txt", "/", "x", "", "/nothing"):
                    self.assertEqual(file_answer(disk, path), -3, (at, place, path))

    def test_a_wrong_folder_comes_before_a_name_that_is_not_there(self):
        disk = sample()
        put(disk.blocks[16, 2], 0, 0, 1)
        for path, told in (("/deep/nothing", -3), ("/deep/a1", -3), ("/deep/", -3), ("/deep", -5), ("/nothing/a1", -4),
                           ("/hello.txt", b"hello")):
            self.assertEqual(file_answer(disk, path), told, path)

    def test_a_wrong_record_comes_before_a_folder(self):
        disk = sample()
        put(disk.records[17], 32, 1, 8)
        self.assertEqual(file_answer(disk, "/folder"), -3)
        self.assertEqual(file_answer(disk, "/folder/note"), -3)
        self.assertEqual(file_answer(disk, "/hello.txt"), b"hello")

    def test_a_wrong_record_comes_before_going_on_from_a_file(self):
        disk = sample()
        put(disk.records[19], 16, 2, 2)
        self.assertEqual(file_answer(disk, "/hello.txt/more"), -3)
        self.assertEqual(file_answer(disk, "/hello.txt"), -3)
        self.assertEqual(file_answer(disk, "/folder/note"), b"a note")

    def test_what_an_entry_says_of_its_record_comes_before_a_folder(self):
        disk = sample()
        put(disk.records[17], entry_place(disk.records[17], "inner") + 6, 2, 2)
        self.assertEqual(file_answer(disk, "/folder/inner"), -3)
        self.assertEqual(file_answer(disk, "/folder/note"), b"a note")


class NotThere(unittest.TestCase):
    def setUp(self):
        self.image = sample().image()

    def assert_not_there(self, paths):
        for path in paths:
            for start, most in ((0, MOST), (0, 0), (2147483647, 1)):
                self.assertEqual(file_answer(self.image, path, start, most), -4, path)

    def test_it_begins_with_a_stroke(self):
        self.assert_not_there(("", "hello.txt", "x", " /hello.txt", "\\hello.txt", "./hello.txt", "folder/note"))

    def test_there_is_none(self):
        self.assert_not_there(("/x", "/hello", "/hello.txt ", "/ hello.txt", "/hello.txtt", "/folder/x", "/note", "/..",
                               "/folder/.", "/folder/hello.txt", "/nothing/note", "/\0", "/\xe4", "/folder/inner/note"))

    def test_names_without_letters(self):
        self.assert_not_there(("//", "//hello.txt", "/folder/", "/folder//note", "/folder/inner/"))

    def test_it_goes_on_from_a_file(self):
        self.assert_not_there(("/hello.txt/", "/hello.txt/x", "/hello.txt/hello.txt", "/folder/note/x", "/deep/m/."))

    def test_kind_2_is_not_looked_for(self):
        disk = sample()
        disk.add_folder(TOP, [entry("hello.text", 19), entry("HELLO~1.TXT", 19, kind=2)])
        self.assertEqual(file_answer(disk, "/hello~1.txt"), -4)
        self.assertEqual(file_answer(disk, "/hello.text"), b"hello")


class AFolder(unittest.TestCase):
    def test_each(self):
        image = sample().image()
        for path in ("/", "/.", "/./.", "/folder", "/FOLDER", "/deep", "/folder/inner"):
            for start, most in ((0, MOST), (0, 0), (2147483647, 1)):
                self.assertEqual(file_answer(image, path, start, most), -5, path)

    def test_with_bytes_of_its_own(self):
        disk = sample()
        disk.add_folder(17, [entry("note", 22, 9)], uses=4, attributes=[here(0x80, "", b"bytes")])
        self.assertEqual(file_answer(disk, "/folder"), -5)
        self.assertEqual(file_answer(disk, "/folder/note"), b"a note")

    def test_its_entries_are_not_looked_at(self):
        disk = sample()
        put(disk.records[17], content_place(disk.records[17], 0x90, "$I30"), 0x31, 4)
        self.assertEqual(file_answer(disk, "/folder"), -5)
        self.assertEqual(file_answer(disk, "/folder/note"), -3)
        self.assertEqual(file_answer(disk, "/folder/nothing"), -3)

    def test_the_top_folders_entries_are_not_looked_at(self):
        disk = sample()
        put(disk.records[TOP], content_place(disk.records[TOP], 0x90, "$I30"), 0x31, 4)
        self.assertEqual(file_answer(disk, "/"), -5)
        self.assertEqual(file_answer(disk, "/hello.txt"), -3)


class WhatIsHeld(unittest.TestCase):
    """It must be so whichever part of it is asked for, and none too."""

    def assert_refused(self, attribute, note=None):
        for start, most in ((0, MOST), (0, 1), (0, 0), (3, 1), (2147483647, 1), (2147483647, 0)):
            self.assertEqual(told_of([attribute], start, most), -3, (note, start, most))

    def assert_taken(self, attribute, many, note=None):
        self.assertEqual(len(told_of([attribute])), many, note)
        self.assertEqual(told_of([attribute], 2147483647, 1), b"", note)

    def test_here(self):
        good = here(0x80, "", bytes(16))
        for many, place in ((17, 24), (41, 0), (0, 41), (1, 40), (0, 65535), (2 ** 32 - 1, 24), (2 ** 31, 0)):
            self.assert_refused(changed(changed(good, 16, many, 4), 20, place, 2), (many, place))
        for many, place in ((16, 24), (40, 0), (0, 40), (1, 39)):
            self.assert_taken(changed(changed(good, 16, many, 4), 20, place, 2), many, (many, place))

    def test_in_clusters_its_head(self):
        good = in_clusters(0x80, "", [(2, 120)], 700)
        self.assert_taken(good, 700)
        for place in range(16, 24):
            self.assert_refused(changed(good, place, 1, 1), place)
        for place in (len(good), 65535):
            self.assert_refused(changed(good, 32, place, 2), place)
        self.assert_refused(changed(good[:56], 4, 56, 4))

    def test_clusters_told(self):
        for clusters in (0, 1, 3, 2 + 2 ** 32, 2 + 2 ** 56, 2 ** 63, 2 ** 64 - 1):
            self.assert_refused(in_clusters(0x80, "", [(2, 120)], 0, clusters=clusters), clusters)
            self.assert_refused(in_clusters(0x80, "", [(1, None), (1, 120)], 0, clusters=clusters), clusters)
        self.assert_taken(in_clusters(0x80, "", [(1, None), (1, 120)], 1024, clusters=2), 1024)

    def test_bytes_told(self):
        for size in (1025, 1026, 2 ** 32, 2 ** 56 + 1, 2 ** 63, 2 ** 64 - 1):
            self.assert_refused(in_clusters(0x80, "", [(2, 120)], size), size)
            self.assert_refused(in_clusters(0x80, "", [(2, 120)], size, 0), size)
            self.assert_refused(in_clusters(0x80, "", [(2, None)], size, 0), size)
        for size in (0, 1, 1023, 1024):
            self.assert_taken(in_clusters(0x80, "", [(2, 120)], size), size)

    def test_begun(self):
        for begun in (701, 1024, 2 ** 32, 2 ** 56 + 1, 2 ** 64 - 1):
            self.assert_refused(in_clusters(0x80, "", [(2, 120)], 700, begun), begun)
        for begun in (0, 1, 699, 700):
            self.assert_taken(in_clusters(0x80, "", [(2, 120)], 700, begun), 700)

    def test_runs(self):
        wrong = ((b"\x10\x64\0", 1), (b"\x11\x00\x64\x11\x01\x00\0", 1), (b"\x01\x00\x11\x01\x64\0", 1),
                 (b"\x19" + number(1, 9) + b"\x64\0", 1), (b"\x91\x01" + number(100, 9) + b"\0", 1),
                 (b"\x05" + number(2 ** 32, 5) + b"\0", 2 ** 32), (b"\x11\x01\xff\0", 1),
                 (b"\x11\x01\x05\x11\x01\xfa\0", 2), (b"\x21\x01\xbe\x00\0", 1), (b"\x21\x02\xbd\x00\0", 2),
                 (b"\x61\x01" + number(2 ** 32, 6) + b"\0", 1), (b"\x11\x01\x64\x11\x01\x01\x01\x05", 7),
                 (b"\x11\x01\x64\x01\x01\x14\x01\x00", 2))
        for runs, clusters in wrong:
            self.assert_refused(in_clusters(0x80, "", runs, 0, clusters=clusters), runs)
        right = ((b"\x11\x01\x64\0", 1), (b"\x21\x01\xbd\x00\0", 1), (b"\x11\x01\x05\x11\x01\xfb\0", 2),
                 (b"\x18" + number(1, 8) + b"\x64\0", 1), (b"\x81\x01" + number(100, 8) + b"\0", 1), (b"\x01\x05\0", 5))
        for runs, clusters in right:
            size = clusters * 512
            self.assert_taken(in_clusters(0x80, "", runs, size, clusters=clusters), size, runs)

    def test_a_run_that_no_byte_is_asked_of(self):
        # The last run goes on behind the volume; the file's bytes end ahead of it.
        self.assert_refused(in_clusters(0x80, "", [(1, 120), (2, 189)], 512))
        self.assert_taken(in_clusters(0x80, "", [(1, 120), (1, 189)], 512), 512)

    def test_what_is_behind_is_not_the_volumes(self):
        disk = sample()
        disk.add(22, [in_clusters(0x80, "", [(1, 180)], 9)], uses=9)
        image = disk.image()
        for sectors, told in ((181, bytes(9)), (180, -3)):
            image[40:48] = number(sectors, 8)
            self.assertEqual(file_answer(image, PATH), told, sectors)

    def test_flags(self):
        good = in_clusters(0x80, "", [(1, 120)], 9)
        for flags in (1, 0x4000, 0x8001, 0xC000):
            self.assert_refused(changed(good, 12, flags, 2), flags)
        self.assert_taken(changed(good, 12, 0x8000, 2), 9)
        self.assert_refused(changed(here(0x80, "", b"x"), 12, 0x8000, 2))

    def test_a_list_of_attributes(self):
        self.assertEqual(told_of([here(0x80, "", b"own"), here(0x20, "", b"")]), -3)

    def test_it_is_not_looked_at_where_the_path_goes_on(self):
        disk = sample()
        put(disk.records[22], attribute_place(disk.records[22], 0x80) + 16, 1000, 4)
        self.assertEqual(file_answer(disk, PATH), -3)
        self.assertEqual(file_answer(disk, PATH + "/x"), -4)
        self.assertEqual(file_answer(disk, "/hello.txt"), b"hello")

    def test_the_same_is_refused_in_a_listing(self):
        wrong = in_clusters(0x80, "", [(2, 120)], 1025)
        disk = sample()
        disk.add(22, [wrong], uses=9)
        self.assertEqual(answer(disk, "/folder"), -3)
        self.assertEqual(file_answer(disk, PATH), -3)


class OtherFiles(unittest.TestCase):
    def test_only_the_entry_that_leads_on_is_followed(self):
        disk = sample()
        del disk.records[19]
        self.assertEqual(file_answer(disk, "/deep/m"), b"")
        self.assertEqual(file_answer(disk, "/folder/note"), b"a note")
        self.assertEqual(file_answer(disk, "/hello.txt"), -3)
        self.assertEqual(file_answer(disk, "/deep/a1"), -3)

    def test_an_entry_that_leads_to_no_record(self):
        disk = sample()
        put(disk.records[17], entry_place(disk.records[17], "note"), 999, 6)
        self.assertEqual(file_answer(disk, "/folder/note"), -3)
        self.assertEqual(file_answer(disk, "/folder/inner"), -5)

    def test_an_entry_that_is_not_so_is_refused_for_all(self):
        disk = sample()
        put(disk.records[17], entry_place(disk.records[17], "inner") + 81, 4, 1)
        self.assertEqual(file_answer(disk, "/folder/note"), -3)


if __name__ == "__main__":
    unittest.main()
