"""Folders: their blocks, and all their entries in order."""

from strictvolume.fields import codes, must, number_at, part
from strictvolume.holdings import held
from strictvolume.layout import SECTOR
from strictvolume.marks import without_marks
from strictvolume.nodes import node_entries

FIRST_NODE = 0x90
BLOCKS = 0xA0
FOLDER_NAME = "$I30"
MOST_LEVELS = 16
MOST_ENTRIES = 4096


class Folder:
    def __init__(self, layout, record):
        self.layout = layout
        self.first_entries = first_node_entries(layout, record)
        blocks = record.attribute(BLOCKS, FOLDER_NAME)
        self.blocks = None if blocks is None else held(layout, blocks)
        self.known_blocks = {}

    # A block without names may stand below many entries: it is read once.
    def block_entries(self, number):
        if number not in self.known_blocks:
            must(self.blocks is not None)
            self.known_blocks[number] = node_entries(self.block(number), 24)
        return self.known_blocks[number]

    def block(self, number):
        length = self.layout.block_length
        unit = SECTOR if self.layout.cluster > length else self.layout.cluster
        data = without_marks(self.blocks.taken(number * unit, length))
        must(part(data, 0, 4) == codes("INDX"))
        must(number_at(data, 16, 8) == number)
        return data


def first_node_entries(layout, record):
    attribute = record.attribute(FIRST_NODE, FOLDER_NAME)
    must(attribute is not None)
    must(not attribute.in_clusters)
    content = held(layout, attribute).content
    must(number_at(content, 0, 4) == 0x30)
    must(number_at(content, 4, 4) == 1)
    must(number_at(content, 8, 4) == layout.block_length)
    return node_entries(content, 16)


# What is still to be gone through: an entry, or (entry None) the block below one.
class Step:
    def __init__(self, level, block_number, entry):
        self.level = level
        self.block_number = block_number
        self.entry = entry


# In reverse, for the step that was put there last is taken first.
def steps_back(entries, level):
    steps = []
    for entry in reversed(entries):
        if not entry.is_last:
            steps.append(Step(level, None, entry))
        if entry.below is not None:
            steps.append(Step(level + 1, entry.below, None))
    return steps


def entries_in_order(layout, record):
    folder = Folder(layout, record)
    found = []
    before = []
    waiting = steps_back(folder.first_entries, 1)
    while len(waiting) > 0:
        step = waiting.pop()
        if step.entry is None:
            must(step.level <= MOST_LEVELS)
            waiting.extend(steps_back(folder.block_entries(step.block_number), step.level))
        else:
            name = great_letters(step.entry.name)
            must(before < name)
            before = name
            found.append(step.entry)
            must(len(found) <= MOST_ENTRIES)
    return found


def great_letters(name):
    return [code - 32 if 97 <= code <= 122 else code for code in name]
