"""Paths, and what is found at their end."""

import unittest

from strictvolume.volumes import list_of
from volume_images import (Disk, MOST, SAMPLE_DEEP, SAMPLE_FOLDER, SAMPLE_TOP, TOP, answer, as_bytes, entry,
                           entry_place, last, put, sample)


class Forms(unittest.TestCase):
    def setUp(self):
        self.image = sample().image()

    def assert_told(self, path, told):
        self.assertEqual(answer(self.image, path), told, path)

    def test_the_top_folder(self):
        self.assert_told("/", SAMPLE_TOP)

    def test_one_name(self):
        self.assert_told("/deep", SAMPLE_DEEP)
        self.assert_told("/folder", SAMPLE_FOLDER)

    def test_several_names(self):
        self.assert_told("/folder/inner", "")
        self.assert_told("/./folder/inner", "")

    def test_small_letters_as_great_ones(self):
        for path in ("/DEEP", "/Deep", "/dEEp"):
            self.assert_told(path, SAMPLE_DEEP)
        for path in ("/FOLDER/INNER", "/Folder/inneR", "/folder/INner"):
            self.assert_told(path, "")
        self.assert_told("/HELLO.TXT", -5)

    def test_it_begins_with_a_stroke(self):
        for path in ("", "deep", "x", " /", "\\", ".", "./", "folder/inner", "\0/", "\\deep", "d/"):
            self.assert_told(path, -4)

    def test_there_is_none(self):
        for path in ("/x", "/dee", "/deepp", "/deep ", "/ deep", "/folder/x", "/folder/deep", "/inner", "/..",
                     "/folder/.", "/folder/..", "/hello", "/hello.tx", "/folder/inner/x", "/x/deep", "/\0", "/deep\0",
                     "/\xe4", "/dee\xf0", "/\\deep", "/$MFT"):
            self.assert_told(path, -4)

    def test_names_without_letters(self):
        for path in ("//", "//deep", "/deep/", "/folder//inner", "/folder/inner/", "/folder/inner//", "///", "/./"):
            self.assert_told(path, -4)

    def test_it_goes_on_from_a_file(self):
        for path in ("/hello.txt/", "/hello.txt/x", "/hello.txt/hello.txt", "/folder/note/x", "/deep/m/", "/deep/z1/a/b",
                     "/hello.txt/."):
            self.assert_told(path, -4)

    def test_a_file(self):
        for path in ("/hello.txt", "/folder/note", "/deep/a1", "/deep/m", "/deep/z1"):
            self.assert_told(path, -5)

    def test_only_letters_are_alike(self):
        disk = sample()
        disk.add_folder(TOP, [entry("@", 18), entry("[", 18), entry("{", 19)])
        for path, told in (("/@", ""), ("/`", -4), ("/[", ""), ("/{", -5), ("/}", -4), ("/\x00", -4), ("/;", -4)):
            self.assertEqual(answer(disk, path), told, path)

    def test_names_of_one_letter_and_of_255(self):
        name = "n" * 255
        disk = sample()
        disk.add_folder(TOP, [last(0)], {0: [entry("m", 17, 4), entry(name, 18)]})
        self.assertEqual(answer(disk, "/m"), SAMPLE_FOLDER)
        self.assertEqual(answer(disk, "/" + name), "")
        self.assertEqual(answer(disk, "/" + name.upper()), "")
        self.assertEqual(answer(disk, "/" + name + "n"), -4)
        self.assertEqual(answer(disk, "/" + name[1:]), -4)

    def test_each_byte_as_a_path_of_one(self):
        for code in range(256):
            told = list_of(MOST, self.image, [code])
            self.assertEqual(told == [-4], code != 0x2F)


class Dots(unittest.TestCase):
    def test_the_top_folder_by_its_own_entry(self):
        disk = sample()
        self.assertEqual(answer(disk, "/."), SAMPLE_TOP)
        self.assertEqual(answer(disk, "/./."), SAMPLE_TOP)
        self.assertEqual(answer(disk, "/././deep"), SAMPLE_DEEP)

    def test_without_such_an_entry_there_is_none(self):
        disk = sample()
        disk.add_folder(TOP, [entry("deep", 16, 3)])
        self.assertEqual(answer(disk, "/."), -4)

    def test_names_of_dots_are_names(self):
        disk = sample()
        disk.add_folder(TOP, [entry("..", 18), entry("...", 17, 4)])
        self.assertEqual(answer(disk), "../\n.../\n")
        self.assertEqual(answer(disk, "/.."), "")
        self.assertEqual(answer(disk, "/..."), SAMPLE_FOLDER)


class Kinds(unittest.TestCase):
    def test_kind_2_is_not_looked_for(self):
        disk = sample()
        disk.add_folder(TOP, [entry("Folder", 17, 4), entry("FOLDE~1", 17, 4, kind=2)])
        self.assertEqual(answer(disk, "/FOLDE~1"), -4)
        self.assertEqual(answer(disk, "/folder"), SAMPLE_FOLDER)

    def test_the_others_are(self):
        for kind in (0, 1, 3):
            disk = sample()
            disk.add_folder(TOP, [entry("folder", 17, 4, kind=kind)])
            self.assertEqual(answer(disk, "/folder"), SAMPLE_FOLDER)
            self.assertEqual(answer(disk), "folder/\n")


class OnTheWay(unittest.TestCase):
    def test_only_the_entry_that_leads_on_is_followed(self):
        disk = sample()
        del disk.records[19]
        self.assertEqual(answer(disk, "/deep/m"), -5)
        self.assertEqual(answer(disk, "/folder"), SAMPLE_FOLDER)
        self.assertEqual(answer(disk, "/nothing"), -4)
        self.assertEqual(answer(disk, "/"), -3)
        self.assertEqual(answer(disk, "/deep"), -3)

    def test_an_entry_that_leads_to_no_record(self):
        disk = sample()
        put(disk.records[17], entry_place(disk.records[17], "inner"), 999, 6)
        self.assertEqual(answer(disk, "/folder/inner"), -3)
        self.assertEqual(answer(disk, "/folder/note"), -5)
        self.assertEqual(answer(disk, "/folder"), -3)

    def test_how_often_a_record_was_used(self):
        disk = sample()
        put(disk.records[17], entry_place(disk.records[17], "inner") + 6, 2, 2)
        self.assertEqual(answer(disk, "/folder/inner"), -3)
        self.assertEqual(answer(disk, "/folder/inner/x"), -3)
        self.assertEqual(answer(disk, "/folder"), -3)
        self.assertEqual(answer(disk, "/folder/note"), -5)
        self.assertEqual(answer(disk, "/folder/x"), -4)

    def test_each_entry_says_for_itself_how_often(self):
        # The same folder by two entries, of which one is wrong.
        disk = sample()
        disk.add_folder(TOP, [entry(".", TOP), entry("a", 17, 4), entry("b", 17, 5)])
        self.assertEqual(answer(disk, "/a"), SAMPLE_FOLDER)
        self.assertEqual(answer(disk, "/b"), -3)
        self.assertEqual(answer(disk, "/./b/note"), -3)

    def test_a_folder_is_looked_at_whole(self):
        disk = sample()
        disk.blocks[16, 2][24 + 12] = 1
        self.assertEqual(answer(disk, "/deep/a1"), -3)

    def test_a_ring_of_folders(self):
        disk = sample()
        disk.add_folder(TOP, [entry("a", 17)])
        disk.add_folder(17, [entry("b", TOP), entry("c", 18)])
        self.assertEqual(answer(disk, "/a/b" * 1023 + "/a/c"), "")
        self.assertEqual(answer(disk, "/a/b" * 1023 + "/a/d"), -4)
        self.assertEqual(answer(disk, "/a/b" * 1024), "a/\n")

    def test_many_levels_of_folders(self):
        disk = Disk(record_count=70, clusters=190)
        disk.add_folder(TOP, [entry("d", 6)])
        for at in range(6, 66):
            disk.add_folder(at, [entry("d", at + 1)])
        disk.add_folder(66, [entry("end", 67)])
        disk.add_file(67, b"!")
        self.assertEqual(answer(disk, "/d" * 61), "end 1\n")
        self.assertEqual(answer(disk, "/d" * 60), "d/\n")
        self.assertEqual(answer(disk, "/d" * 61 + "/end"), -5)
        self.assertEqual(answer(disk, "/d" * 62), -4)

    def test_a_wide_folder_again_and_again(self):
        names = ["%03d" % step for step in range(400)]
        disk = Disk(block_length=65536, clusters=190, record_count=8)
        disk.add_folder(TOP, [last(0)], {0: [entry(".", TOP)] + [entry(name, 6) for name in names]})
        disk.add_file(6)
        told = list_of(MOST, disk.image(), as_bytes("/." * 2048))
        self.assertEqual(told[0], 400 * 6)


if __name__ == "__main__":
    unittest.main()
