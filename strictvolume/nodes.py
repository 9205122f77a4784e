"""A folder's nodes and their entries."""

from strictvolume.fields import codes, letters_at, must, number_at, part

BLOCK_BELOW = 1
LAST = 2
NAME_PLACE = 82


# The block below is None where there is none; the last entry has no name and no kind.
class Entry:
    def __init__(self, within, place):
        self.length = number_at(within, place + 8, 2)
        must(self.length % 8 == 0 and self.length >= 16)
        data = part(within, place, self.length)
        flags = number_at(data, 12, 2)
        must(flags <= BLOCK_BELOW + LAST)
        self.number = number_at(data, 0, 6)
        self.uses = number_at(data, 6, 2)
        self.is_last = (flags & LAST) == LAST
        self.below = block_number_in(data) if (flags & BLOCK_BELOW) == BLOCK_BELOW else None
        self.kind = None
        self.name = []
        if not self.is_last:
            own = data if self.below is None else data[:self.length - 8]
            self.kind = kind_in(own)
            self.name = name_in(own)


def block_number_in(data):
    must(len(data) >= 24)
    return number_at(data, len(data) - 8, 8)


def kind_in(data):
    kind = number_at(data, 81, 1)
    must(kind <= 3)
    return kind


def name_in(data):
    many = number_at(data, 80, 1)
    must(many >= 1)
    must(number_at(data, 10, 2) == NAME_PLACE - 16 + 2 * many)
    name = letters_at(data, NAME_PLACE, many)
    must(all([0x20 <= letter <= 0x7E for letter in name]))
    must(codes("/")[0] not in name)
    return name


def node_entries(data, place):
    holder = data[place:]
    begin = number_at(holder, 0, 4)
    must(begin % 8 == 0 and begin >= 16)
    within = part(holder, 0, number_at(holder, 4, 4))
    has_blocks = (number_at(holder, 12, 1) & 1) == 1
    entries = []
    at_end = False
    while not at_end:
        entry = Entry(within, begin)
        must((entry.below is not None) == has_blocks)
        entries.append(entry)
        begin = begin + entry.length
        at_end = entry.is_last
    return entries
