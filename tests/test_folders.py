"""Folders: their attributes, blocks, nodes and entries, and the order of these."""

import unittest

from volume_images import (Disk, SAMPLE_DEEP, SAMPLE_FOLDER, SAMPLE_TOP, SECTOR, TOP, answer, attribute_place,
                           block, content_place, entry, entry_place, here, in_clusters, last, marked, node, number,
                           padded, put, sample, wide)

# What is answered where neither /deep nor /folder is looked at as a folder.
LISTED = (("/", SAMPLE_TOP), ("x", -4))


class FolderCase(unittest.TestCase):
    def assert_refused(self, disk, folder="/folder", note=None):
        """Wherever the folder is looked at, and nowhere else."""
        inner = {"/folder": "/note", "/deep": "/m"}[folder]
        for path in (folder, folder + inner, folder + "/nothing", folder + "/"):
            self.assertEqual(answer(disk, path), -3, (note, path))
        for path, told in LISTED:
            self.assertEqual(answer(disk, path), told, (note, path))

    def assert_taken(self, disk, note=None):
        self.assertEqual(answer(disk, "/folder"), SAMPLE_FOLDER, note)
        self.assertEqual(answer(disk, "/deep"), SAMPLE_DEEP, note)

    def node_changed(self, place, value, many, at=17):
        disk = sample()
        put(disk.records[at], content_place(disk.records[at], 0x90, "$I30") + place, value, many)
        return disk

    def entry_changed(self, place, value, many, name="note"):
        disk = sample()
        put(disk.records[17], entry_place(disk.records[17], name) + place, value, many)
        return disk

    def folder_of(self, entries, blocks=None):
        disk = sample()
        disk.add_folder(17, entries, blocks, uses=4)
        return disk

    def assert_listed(self, entries, told, blocks=None, note=None):
        self.assertEqual(answer(self.folder_of(entries, blocks), "/folder"), told, note)


class Attributes(FolderCase):
    def test_there_must_be_one(self):
        disk = sample()
        disk.add(17, [], 4, folder=True)
        self.assert_refused(disk)

    def test_another_kind_or_name(self):
        content = number(0x30, 4) + number(1, 4) + number(1024, 4) + number(1, 4) + node([last()])
        for kind, name, told in ((0x90, "$I30", ""), (0x91, "$I30", -3), (0x90, "$SII", -3), (0x90, "", -3)):
            disk = sample()
            disk.add(17, [here(kind, name, content)], 4, folder=True)
            self.assertEqual(answer(disk, "/folder"), told)

    def test_it_stands_here(self):
        disk = sample()
        content = number(0x30, 4) + number(1, 4) + number(1024, 4) + number(1, 4) + node([last()])
        disk.store(150, content)
        disk.add(17, [in_clusters(0x90, "$I30", [(1, 150)], len(content))], 4, folder=True)
        self.assert_refused(disk)

    def test_what_it_holds_is_within_it(self):
        disk = sample()
        place = attribute_place(disk.records[17], 0x90, "$I30")
        put(disk.records[17], place + 16, 1000, 4)
        self.assert_refused(disk)

    def test_its_head(self):
        for place, values in ((0, (0, 0x31, 0x80, 0x30 + 256, 0x30 + 2 ** 24)), (4, (0, 2, 1 + 256, 1 + 2 ** 24)),
                              (8, (0, 512, 2048, 4096, 1025, 1024 + 2 ** 24))):
            for value in values:
                self.assert_refused(self.node_changed(place, value, 4), note=(place, value))

    def test_what_is_not_looked_at(self):
        self.assert_taken(self.node_changed(12, 2 ** 32 - 1, 4))
        self.assert_taken(self.node_changed(16 + 8, 2 ** 32 - 1, 4))
        self.assert_taken(self.node_changed(16 + 12, 0xFE, 1))
        self.assert_taken(self.node_changed(16 + 13, 2 ** 24 - 1, 3))

    def test_too_short_for_a_node(self):
        whole = number(0x30, 4) + number(1, 4) + number(1024, 4) + number(1, 4) + node([last()])
        for many in range(len(whole)):
            disk = sample()
            disk.add(17, [here(0x90, "$I30", whole[:many])], 4, folder=True)
            self.assertEqual(answer(disk, "/folder"), -3, many)

    def test_a_wrong_top_folder_is_looked_at_by_paths_alone(self):
        disk = self.node_changed(0, 0x31, 4, TOP)
        for path, told in (("/", -3), ("/deep", -3), ("//", -3), ("x", -4), ("", -4)):
            self.assertEqual(answer(disk, path), told, path)

    def test_a_listed_folder_is_looked_at_as_a_record_alone(self):
        disk = sample()
        disk.add(17, [], 4, folder=True)
        self.assertEqual(answer(disk), SAMPLE_TOP)

    def test_a_record_that_is_no_folder_is_a_file(self):
        disk = sample()
        disk.records[17][22] = 1
        self.assertEqual(answer(disk), "deep/\nfolder 0\nhello.txt 5\n")
        self.assertEqual(answer(disk, "/folder"), -5)
        self.assertEqual(answer(disk, "/folder/note"), -4)


class Blocks(FolderCase):
    def block_changed(self, k, place, value, many):
        disk = sample()
        put(disk.blocks[16, k], place, value, many)
        return disk

    def test_letters(self):
        for k in (0, 2):
            for place in range(4):
                self.assert_refused(self.block_changed(k, place, ord("x"), 1), "/deep")

    def test_number(self):
        for k in (0, 2):
            for value in (1, 3, k + 2 ** 16, k + 2 ** 56):
                self.assert_refused(self.block_changed(k, 16, value, 8), "/deep")

    def test_what_is_not_looked_at(self):
        for k in (0, 2):
            self.assert_taken(self.block_changed(k, 8, 2 ** 64 - 1, 8))
            self.assert_taken(self.block_changed(k, 24 + 8, 2 ** 32 - 1, 4))
            self.assert_taken(self.block_changed(k, 24 + 12, 0xFE, 1))

    def test_without_the_attribute(self):
        disk = self.folder_of([last(0)])
        self.assertEqual(answer(disk, "/folder"), -3)
        named = in_clusters(0xA0, "$SII", [(2, 150)], 1024)
        disk.add_block(17, 0, 150 * SECTOR, [])
        disk.add_folder(17, [last(0)], uses=4, attributes=[named])
        self.assertEqual(answer(disk, "/folder"), -3)

    def test_in_an_attribute_that_stands_here(self):
        disk = sample(block_length=512)
        content = bytes(marked(block(512, 0, [entry("note", 22, 9), last()])))
        disk.add_folder(17, [last(0)], uses=4, attributes=[here(0xA0, "$I30", content)])
        self.assertEqual(answer(disk, "/folder"), "note 6\n")

    def test_what_the_attribute_holds_must_be_so(self):
        for place, value, many in ((16, 1, 8), (24, 9, 8), (56, 2 ** 20, 8), (32, 65535, 2), (48, 2 ** 20, 8)):
            disk = sample()
            put(disk.records[16], attribute_place(disk.records[16], 0xA0, "$I30") + place, value, many)
            self.assert_refused(disk, "/deep")

    def test_it_must_be_so_without_blocks_below_too(self):
        wrong = bytearray(in_clusters(0xA0, "$I30", [(2, 150)], 1024))
        put(wrong, 24, 5, 8)
        disk = sample()
        disk.add_folder(17, [entry("note", 22, 9)], uses=4, attributes=[bytes(wrong)])
        self.assertEqual(answer(disk, "/folder"), -3)
        self.assertEqual(answer(disk), SAMPLE_TOP)

    def test_blocks_that_nothing_leads_to_are_not_looked_at(self):
        disk = sample()
        attribute = in_clusters(0xA0, "$I30", [(2, 150)], 1024)
        disk.add_folder(17, [entry("note", 22, 9)], uses=4, attributes=[attribute])
        self.assertEqual(answer(disk, "/folder"), "note 6\n")

    def test_a_block_lies_within_whole(self):
        for size, told in ((2048, SAMPLE_DEEP), (2047, -3), (1536, -3), (1024, -3)):
            disk = sample()
            place = attribute_place(disk.records[16], 0xA0, "$I30")
            put(disk.records[16], place + 48, size, 8)
            put(disk.records[16], place + 56, size, 8)
            self.assertEqual(answer(disk, "/deep"), told, size)

    def test_numbers_beyond(self):
        for k in (4, 2 ** 32, 2 ** 56, 2 ** 64 - 1):
            disk = sample()
            at = entry_place(disk.records[16], "m")
            length = int.from_bytes(disk.records[16][at + 8:at + 10], "little")
            put(disk.records[16], at + length - 8, k, 8)
            self.assertEqual(answer(disk, "/deep"), -3)

    def test_any_block_that_has_its_number(self):
        # Blocks may stand at each cluster, so that with short clusters odd numbers are there too.
        disk = self.folder_of([entry("b", 22, 9, below=1), last(5)], {1: [entry("a", 22, 9)], 5: [entry("c", 22, 9)]})
        self.assertEqual(answer(disk, "/folder"), "a 6\nb 6\nc 6\n")

    def test_counted_in_clusters_or_in_sectors(self):
        for per_cluster, block_length, second in ((1, 512, 1), (1, 1024, 2), (2, 1024, 1), (4, 1024, 2), (4, 512, 1),
                                                  (8, 4096, 1), (8, 2048, 4), (2, 4096, 4), (16, 4096, 8)):
            disk = Disk(per_cluster=per_cluster, block_length=block_length, clusters=200 // per_cluster, record_count=8)
            disk.add_folder(TOP, [entry("m", 6, below=0), last(second)],
                            {0: [entry("a", 6)], second: [entry("z", 6)]})
            disk.add_file(6)
            self.assertEqual(disk.block_places[TOP, second] - disk.block_places[TOP, 0], block_length)
            self.assertEqual(answer(disk), "a 0\nm 0\nz 0\n", (per_cluster, block_length))


class Nodes(FolderCase):
    def test_where_entries_begin(self):
        for begin in (0, 8, 15, 17, 20, 12, 16 + 2 ** 16, 16 + 2 ** 24, 2 ** 32 - 8, 2 ** 31):
            self.assert_refused(self.node_changed(16, begin, 4), note=begin)

    def test_entries_may_begin_later(self):
        for begin in (16, 24, 32, 64):
            content = number(0x30, 4) + number(1, 4) + number(1024, 4) + number(1, 4)
            content += node([entry("note", 22, 9), last()], begin)
            disk = sample()
            disk.add(17, [here(0x90, "$I30", content)], 4, folder=True)
            self.assertEqual(answer(disk, "/folder"), "note 6\n", begin)

    def test_they_begin_at_a_multiple_of_8(self):
        for begin in (17, 18, 20, 28):
            content = number(0x30, 4) + number(1, 4) + number(1024, 4) + number(1, 4)
            content += node([entry("note", 22, 9), last()], begin)
            disk = sample()
            disk.add(17, [here(0x90, "$I30", content)], 4, folder=True)
            self.assertEqual(answer(disk, "/folder"), -3, begin)

    def test_where_entries_end(self):
        end = 16 + len(entry("inner", 18)) + len(entry("note", 22)) + len(last())
        self.assert_taken(self.node_changed(20, end, 4))
        for wrong in (0, 16, end - 1, end - 8, end - 16, end - 17, end + 1, end + 8, end + 2 ** 16, end + 2 ** 24,
                      2 ** 32 - 1):
            self.assert_refused(self.node_changed(20, wrong, 4), note=wrong)

    def test_behind_the_last_there_may_be_room(self):
        content = number(0x30, 4) + number(1, 4) + number(1024, 4) + number(1, 4)
        content += node([entry("note", 22, 9), last(), b"\xff" * 40])
        # `node` looks at what stands last for its bit, which is put right here.
        content = content[:28] + b"\0" + content[29:]
        disk = sample()
        disk.add(17, [here(0x90, "$I30", content)], 4, folder=True)
        self.assertEqual(answer(disk, "/folder"), "note 6\n")

    def test_where_entries_end_in_a_block(self):
        for k in (0, 2):
            disk = sample()
            end = int.from_bytes(disk.blocks[16, k][28:32], "little")
            for wrong in (0, end - 1, end - 8, end - 16, 1024 - 24 + 1, 1024, 2 ** 32 - 1):
                put(disk.blocks[16, k], 28, wrong, 4)
                self.assert_refused(disk, "/deep", wrong)
            put(disk.blocks[16, k], 28, 1024 - 24, 4)
            self.assert_taken(disk)

    def test_a_node_to_the_end_of_its_block(self):
        # Two sectors: the entries begin at 48, and the last one ends with the block.
        room = 1024 - 48 - len(entry("note", 22)) - len(last())
        filled = [entry("note", 22, 9, room=room)]
        self.assert_listed([last(0)], "note 6\n", {0: filled})

    def test_no_entry_is_the_last(self):
        self.assert_refused(self.entry_without_last())

    def entry_without_last(self):
        disk = sample()
        own = disk.records[17]
        at = entry_place(own, "note") + len(entry("note", 22))
        put(own, at + 12, 0, 2)
        return disk

    def test_all_have_blocks_below_or_none(self):
        blocks = {0: [entry("a", 22, 9)], 2: [entry("z", 22, 9)]}
        self.assert_listed([entry("m", 22, 9, below=0), last(2)], "a 6\nm 6\nz 6\n", blocks)
        self.assert_listed([entry("m", 22, 9), last(2)], -3, blocks)
        self.assert_listed([entry("m", 22, 9, below=0), last()], -3, blocks)
        self.assert_listed([entry("m", 22, 9, below=0), entry("n", 22, 9), last(2)], -3, blocks)
        self.assert_listed([entry("m", 22, 9), entry("n", 22, 9), last()], "m 6\nn 6\n", blocks)

    def test_the_nodes_bit_says_the_same(self):
        disk = self.node_changed(16 + 12, 1, 1)
        self.assert_refused(disk)
        disk = self.node_changed(16 + 12, 0, 1, at=16)
        self.assert_refused(disk, "/deep")
        disk = self.node_changed(16 + 12, 3, 1, at=16)
        self.assert_taken(disk)
        for k in (0, 2):
            disk = sample()
            disk.blocks[16, k][24 + 12] = 1
            self.assert_refused(disk, "/deep")


class Entries(FolderCase):
    def test_length(self):
        own = len(entry("note", 22))
        for length in (0, 8, 15, 17, own - 8, own - 1, own + 1, own + 4, 2 ** 15, 65528, 65535):
            self.assert_refused(self.entry_changed(8, length, 2), note=length)

    def test_longer_than_need_be(self):
        for room in (8, 16, 64):
            self.assert_listed([entry("note", 22, 9, room=room)], "note 6\n")
            self.assert_listed([entry("note", 22, 9, below=0, room=room), last(0)], "note 6\n", {0: []})

    def test_length_of_the_last(self):
        for length, told in ((16, ""), (24, ""), (64, ""), (8, -3), (0, -3), (20, -3), (15, -3)):
            closing = bytearray(padded(last(), max(16, length)))
            put(closing, 8, length, 2)
            self.assert_listed([bytes(closing)], told, note=length)

    def test_the_last_beyond_the_end(self):
        closing = bytearray(last())
        put(closing, 8, 24, 2)
        self.assert_listed([bytes(closing)], -3)

    def test_room_for_a_blocks_number(self):
        self.assert_listed([last(0)], "", {0: []})
        closing = bytearray(last(0))
        put(closing, 8, 16, 2)
        self.assert_listed([bytes(closing)], -3, {0: []})
        # In 16 bytes the last eight would be the length and the flags: this block stands where they would lead.
        k = 16 + 3 * 2 ** 32
        runs = [(2 ** 32 - 1, None)] * 3 + [(3 + 16, None), (2, 150)]
        disk = sample()
        attribute = in_clusters(0xA0, "$I30", runs, (k + 2) * SECTOR)
        disk.add_block(17, k, 150 * SECTOR, [])
        disk.add_folder(17, [bytes(closing)], uses=4, attributes=[attribute])
        self.assertEqual(answer(disk, "/folder"), -3)
        disk.add_folder(17, [last(k)], uses=4, attributes=[attribute])
        self.assertEqual(answer(disk, "/folder"), "")
        # A name of three letters fills 88 bytes: there the number would lie over the name.
        tight = bytearray(entry("abc", 22, 9, below=0))
        self.assertEqual(len(tight), 96)
        short = tight[:88]
        put(short, 8, 88, 2)
        put(short, 80, 3, 1)
        self.assert_listed([bytes(short), last(0)], -3, {0: []})
        self.assert_listed([bytes(tight), last(0)], "abc 6\n", {0: []})

    def test_a_blocks_number_over_the_names_last_letter(self):
        # The letter is the number's lowest byte, and a block of that number is there.
        runs = [(32, None), (2, 150)]
        attribute = in_clusters(0xA0, "$I30", runs, 34 * SECTOR)
        roomy = bytearray(entry("abc ", 22, 9, below=32))
        tight = roomy[:88] + number(32, 8)
        put(tight, 8, 96, 2)
        self.assertEqual((len(roomy), len(tight)), (104, 96))
        for own, told in ((roomy, "abc  6\n"), (tight, -3)):
            disk = sample()
            disk.add_folder(17, [bytes(own), last(32)], uses=4, attributes=[attribute])
            disk.add_block(17, 32, 150 * SECTOR, [])
            self.assertEqual(answer(disk, "/folder"), told)

    def test_how_much_it_holds(self):
        for many in (0, 66, 66 + 7, 66 + 9, 66 + 10, 65535, 66 + 8 + 256):
            self.assert_refused(self.entry_changed(10, many, 2), note=many)
        self.assert_taken(self.entry_changed(10, 66 + 8, 2))

    def test_what_the_last_holds_is_not_looked_at(self):
        closing = bytearray(last())
        for place in list(range(0, 8)) + [10, 11, 14, 15]:
            closing[place] = 0xFF
        self.assert_listed([entry("note", 22, 9), bytes(closing)], "note 6\n")

    def test_flags(self):
        for flags in (4, 5, 8, 0x10, 0x80, 0x100, 0x8000, 0xFFFF, 1):
            self.assert_refused(self.entry_changed(12, flags, 2), note=flags)
        for flags in (4 + 2, 8 + 2, 0x102, 0x8002):
            closing = bytearray(last())
            put(closing, 12, flags, 2)
            self.assert_listed([entry("note", 22, 9), bytes(closing), last()], -3)

    def test_behind_the_last_nothing_is_told(self):
        disk = self.entry_changed(12, 2, 2, "inner")
        self.assertEqual(answer(disk, "/folder"), "")
        self.assertEqual(answer(disk, "/folder/note"), -4)

    def test_kind(self):
        for kind in (4, 5, 128, 255):
            self.assert_refused(self.entry_changed(81, kind, 1), note=kind)
        for kind in (0, 1, 3):
            self.assert_taken(self.entry_changed(81, kind, 1))

    def test_what_is_not_looked_at(self):
        self.assert_taken(self.entry_changed(14, 65535, 2))
        self.assert_taken(self.entry_changed(16, 2 ** 512 - 1, 64))

    def test_length_of_a_name(self):
        for many in (1, 2, 3, 4, 254, 255):
            name = "n" * many
            self.assert_listed([last(0)], name + " 6\n", {0: [entry(name, 22, 9)]}, many)
        self.assert_listed([entry("", 22, 9)], -3)

    def test_length_of_a_name_told_wrong(self):
        for many in (0, 3, 5, 255):
            self.assert_refused(self.entry_changed(80, many, 1), note=many)

    def test_letters_of_a_name(self):
        for code in range(0x20, 0x7F):
            if code != 0x2F:
                name = chr(code)
                self.assert_listed([entry(name, 22, 9)], "" if name == "." else name + " 6\n", note=code)
        for code in list(range(0x20)) + [0x2F] + list(range(0x7F, 0x101)) + [0x141, 0x4100, 0xFFFF, 0xD800]:
            self.assert_listed([entry(number(code, 2), 22, 9)], -3, note=code)
            self.assert_listed([entry(wide("a") + number(code, 2) + wide("b"), 22, 9)], -3, note=code)
            self.assert_listed([entry(wide("ab") + number(code, 2), 22, 9)], -3, note=code)

    def test_names_of_kind_2_must_be_so_too(self):
        self.assert_listed([entry("A~1", 22, 9, kind=2), entry("note", 22, 9)], "note 6\n")
        self.assert_listed([entry("A/1", 22, 9, kind=2), entry("note", 22, 9)], -3)
        self.assert_listed([entry("", 22, 9, kind=2), entry("note", 22, 9)], -3)

    def test_blanks_in_a_name(self):
        self.assert_listed([entry(" a b ", 22, 9)], " a b  6\n")


class Order(FolderCase):
    def listed_in_order(self, names, told=None):
        if told is None:
            told = "".join(name + " 6\n" for name in names)
        self.assert_listed([last(0)], told, {0: [entry(name, 22, 9) for name in names]}, names)

    def test_small_letters_as_great_ones(self):
        self.listed_in_order(["a", "B", "c", "D"])
        self.listed_in_order(["A", "b", "C", "d"])
        self.listed_in_order(["B", "a"], -3)
        self.listed_in_order(["b", "A"], -3)

    def test_signs_between_great_and_small_letters(self):
        # 5BH to 60H stand behind small letters, as these are great ones.
        self.listed_in_order(["a", "z", "[", "\\", "]", "^", "_", "`", "{", "~"])
        for sign in "[\\]^_`{|}~":
            self.listed_in_order([sign, "z"], -3)
            self.listed_in_order(["Z", sign])
        for sign in " !#$@9:":
            self.listed_in_order([sign, "A"])
            self.listed_in_order(["a", sign], -3)

    def test_a_beginning_first(self):
        self.listed_in_order(["a", "ab", "abc", "b"])
        self.listed_in_order(["ab", "a"], -3)
        self.listed_in_order(["a ", "a"], -3)
        self.listed_in_order(["a", "a "])

    def test_alike(self):
        self.listed_in_order(["a", "a"], -3)
        self.listed_in_order(["a", "A"], -3)
        self.listed_in_order(["A", "a"], -3)
        self.listed_in_order(["note", "noTe"], -3)

    def test_byte_by_byte(self):
        self.listed_in_order(["a10", "a2", "a9"])
        self.listed_in_order(["a2", "a10"], -3)

    def test_kind_2_and_the_name_of_one_dot_count_too(self):
        self.assert_listed([entry("b", 22, 9), entry("A", 22, 9, kind=2)], -3)
        self.assert_listed([entry("b", 22, 9, kind=2), entry("a", 22, 9)], -3)
        self.assert_listed([entry("a", 22, 9, kind=2), entry("A", 22, 9)], -3)
        self.assert_listed([entry("a", 22, 9), entry(".", 22, 9)], -3)
        self.assert_listed([entry(".", 22, 9), entry(".", 22, 9)], -3)

    def test_across_blocks(self):
        def told(first, between, second):
            disk = self.folder_of([entry(between, 22, 9, below=0), last(2)],
                                  {0: [entry(name, 22, 9) for name in first],
                                   2: [entry(name, 22, 9) for name in second]})
            return answer(disk, "/folder")
        self.assertEqual(told(["a", "b"], "C", ["d", "e"]), "a 6\nb 6\nC 6\nd 6\ne 6\n")
        self.assertEqual(told(["a", "c"], "C", ["d", "e"]), -3)
        self.assertEqual(told(["a", "d"], "C", ["e"]), -3)
        self.assertEqual(told(["a"], "d", ["D", "e"]), -3)
        self.assertEqual(told(["a"], "d", ["b", "e"]), -3)
        self.assertEqual(told([], "d", []), "d 6\n")
        self.assertEqual(told(["a"], "d", []), "a 6\nd 6\n")
        self.assertEqual(told([], "d", ["e"]), "d 6\ne 6\n")

    def test_several_levels(self):
        blocks = {0: [entry("b", 22, 9, below=2), last(4)], 2: [entry("a", 22, 9)], 4: [entry("c", 22, 9)],
                  6: [entry("f", 22, 9, below=8), last(10)], 8: [entry("e", 22, 9)], 10: [entry("g", 22, 9)]}
        self.assert_listed([entry("d", 22, 9, below=0), last(6)], "".join(name + " 6\n" for name in "abcdefg"), blocks)

    def test_leaves_at_several_levels(self):
        blocks = {0: [entry("b", 22, 9, below=2), last(4)], 2: [entry("a", 22, 9)], 4: [entry("c", 22, 9)],
                  6: [entry("e", 22, 9)]}
        self.assert_listed([entry("d", 22, 9, below=0), last(6)], "".join(name + " 6\n" for name in "abcde"), blocks)

    def test_the_same_block_twice(self):
        self.assert_listed([entry("m", 22, 9, below=0), last(0)], -3, {0: [entry("a", 22, 9)]})
        self.assert_listed([entry("m", 22, 9, below=0), last(0)], -3, {0: [entry("z", 22, 9)]})
        self.assert_listed([entry("m", 22, 9, below=0), entry("n", 22, 9, below=0), last(0)], "m 6\nn 6\n", {0: []})


class Levels(FolderCase):
    def chain(self, many):
        """The first node and below it as many blocks, each below the one before."""
        blocks = {2 * step: [last(2 * step + 2)] for step in range(many - 1)}
        blocks[2 * many - 2] = [entry("note", 22, 9)]
        return blocks

    def test_sixteen_levels(self):
        for many in (1, 2, 14, 15):
            self.assert_listed([last(0)], "note 6\n", self.chain(many), many)
        for many in (16, 17, 20):
            self.assert_listed([last(0)], -3, self.chain(many), many)

    def test_names_on_each_level(self):
        blocks = {2 * step: [entry("%02d" % step, 22, 9, below=40), last(2 * step + 2)] for step in range(14)}
        blocks[28] = [entry("14", 22, 9)]
        blocks[40] = []
        told = "".join("%02d 6\n" % step for step in range(15))
        self.assert_listed([last(0)], told, blocks)

    def test_rings(self):
        self.assert_listed([last(0)], -3, {0: [last(0)]})
        self.assert_listed([last(0)], -3, {0: [last(2)], 2: [last(0)]})
        self.assert_listed([last(0)], -3, {0: [entry("a", 22, 9, below=0), last(0)]})


class HowMany(unittest.TestCase):
    # All are one record: 4096 entries are asked for, not 4096 files.
    def told(self, many, kind=1):
        names = ["%04x" % step for step in range(many)]
        disk = Disk(block_length=65536, clusters=1100, record_count=8)
        entries = [entry(name, 6, kind=kind) for name in names]
        blocks = {}
        first = []
        while entries:
            k = 128 * len(blocks)
            blocks[k] = entries[:650]
            if len(entries) > 650:
                first.append(entry(names[many - len(entries) + 650], 6, kind=kind, below=k))
            else:
                first.append(last(k))
            entries = entries[651:]
        disk.add_folder(TOP, first, blocks)
        disk.add_file(6)
        return answer(disk), "".join(name + " 0\n" for name in names)

    def test_4096(self):
        told, whole = self.told(4096)
        self.assertEqual(told, whole)

    def test_4097(self):
        self.assertEqual(self.told(4097)[0], -3)

    def test_kind_2_counts_too(self):
        self.assertEqual(self.told(4096, kind=2)[0], "")
        self.assertEqual(self.told(4097, kind=2)[0], -3)


if __name__ == "__main__":
    unittest.main()
