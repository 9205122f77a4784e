"""The first sector: how long clusters, records and blocks are, and where the volume ends."""

from strictvolume.fields import codes, must, number_at, part

SECTOR = 512
LONGEST_RECORD = 4096
LONGEST_BLOCK = 65536


class Layout:
    def __init__(self, image):
        first = part(image, 0, SECTOR)
        must(part(first, 3, 8) == codes("NTFS    "))
        must(number_at(first, 11, 2) == SECTOR)
        must(part(first, 510, 2) == [0x55, 0xAA])
        must(first[13] in (1, 2, 4, 8, 16, 32, 64, 128))
        self.image = image
        self.cluster = first[13] * SECTOR
        self.end = number_at(first, 40, 8) * SECTOR
        must(self.end <= len(image))
        self.records_place = number_at(first, 48, 8) * self.cluster
        self.record_length = length_told(first[64], self.cluster, LONGEST_RECORD)
        self.block_length = length_told(first[68], self.cluster, LONGEST_BLOCK)

    # The image may go on behind the volume, so its own length is no bound here.
    def volume_part(self, place, many):
        must(place + many <= self.end)
        return part(self.image, place, many)


def length_told(told, cluster, longest):
    length = told * cluster if told < 128 else power_of_two(256 - told)
    must(SECTOR <= length <= longest)
    must((length & (length - 1)) == 0)
    return length


def power_of_two(exponent):
    power = 1
    for step in range(exponent):
        power = power * 2
    return power
