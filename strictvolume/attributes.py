"""A record's attributes: what stands in front of what they hold."""

from strictvolume.fields import letters_at, must, number_at, part

LIST_OF_ATTRIBUTES = 0x20
END_OF_ATTRIBUTES = 0xFFFFFFFF
SPARSE = 0x8000


class Attribute:
    def __init__(self, data):
        self.data = data
        self.kind = number_at(data, 0, 4)
        must(self.kind != LIST_OF_ATTRIBUTES)
        must(data[8] in (0, 1))
        self.in_clusters = data[8] == 1
        self.name = letters_at(data, number_at(data, 10, 2), data[9])
        flags = number_at(data, 12, 2)
        must(flags == 0 or (self.in_clusters and flags == SPARSE))


def attributes_in(counted, begin):
    found = []
    place = begin
    while number_at(counted, place, 4) != END_OF_ATTRIBUTES:
        length = number_at(counted, place + 4, 4)
        must(length % 8 == 0 and length >= 24)
        found.append(Attribute(part(counted, place, length)))
        place = place + length
    return found
