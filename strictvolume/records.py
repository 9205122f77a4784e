"""Records, and the volume that they are found in by their numbers."""

from strictvolume.attributes import attributes_in
from strictvolume.fields import codes, must, number_at, part
from strictvolume.holdings import held
from strictvolume.layout import Layout
from strictvolume.marks import without_marks

DATA = 0x80
TOP_FOLDER = 5


class Record:
    def __init__(self, marked):
        data = without_marks(marked)
        flags = number_at(data, 22, 2)
        begin = number_at(data, 20, 2)
        must(part(data, 0, 4) == codes("FILE"))
        must((flags & 1) == 1)
        must(begin % 8 == 0)
        must(number_at(data, 32, 8) == 0)
        counted = part(data, 0, number_at(data, 24, 4))
        self.uses = number_at(data, 16, 2)
        self.is_folder = (flags & 2) == 2
        self.attributes = attributes_in(counted, begin)

    def attribute(self, kind, name):
        for each in self.attributes:
            if each.kind == kind and each.name == codes(name):
                return each
        return None


class Volume:
    def __init__(self, image):
        self.layout = Layout(image)
        self.stream = records_held(self.layout)
        self.top = self.record(TOP_FOLDER)

    def record(self, number):
        length = self.layout.record_length
        return Record(self.stream.taken(number * length, length))

    def record_of(self, entry):
        record = self.record(entry.number)
        must(record.uses == entry.uses)
        return record


# Record 0 is found by its cluster: only what it holds tells where the others are.
def records_held(layout):
    zero = Record(layout.volume_part(layout.records_place, layout.record_length))
    data = zero.attribute(DATA, "")
    must(data is not None)
    must(data.in_clusters)
    return held(layout, data)


# None where the file has no such attribute: then it has no bytes.
def file_held(layout, record):
    data = record.attribute(DATA, "")
    return None if data is None else held(layout, data)


def file_size(layout, record):
    content = file_held(layout, record)
    return 0 if content is None else content.size


def file_part(layout, record, start, most):
    content = file_held(layout, record)
    if content is None or start >= content.size:
        return []
    return content.taken(start, min(most, content.size - start))
