"""Images of volumes, built byte by byte.

A Disk keeps its first sector, its records and its blocks apart, as bytearrays without marks, so that a test
can change any byte of them before `image()` puts the marks in and lays all of it out.
"""

from strictvolume.volumes import file, list_of

SECTOR = 512
MOST = 33554432
TOP = 5
RECORD_MARKS = 48
BLOCK_MARKS = 40


def number(value, many):
    """Lowest byte first; a value below 0 with a sign."""
    return (value % 256 ** many).to_bytes(many, "little")


def put(data, place, value, many):
    data[place:place + many] = number(value, many)


def up_to_8(value):
    return (value + 7) // 8 * 8


def wide(text):
    return text.encode("utf-16-le")


def padded(data, length):
    return bytes(data) + bytes(length - len(data))


# Attributes

def here(kind, name, content):
    name_place = 24
    place = up_to_8(name_place + 2 * len(name))
    length = up_to_8(place + len(content))
    head = number(kind, 4) + number(length, 4) + bytes([0, len(name)]) + number(name_place, 2) + number(0, 4)
    head += number(len(content), 4) + number(place, 2) + number(0, 2)
    return padded(padded(head + wide(name), place) + content, length)


def run_bytes(runs):
    """Runs are pairs (clusters, where the run begins or None)."""
    out = b""
    before = 0
    for clusters, begin in runs:
        length = number(clusters, clusters.bit_length() // 8 + 1)
        distance = b""
        if begin is not None:
            step = begin - before
            distance = step.to_bytes(step.bit_length() // 8 + 1, "little", signed=True)
            before = begin
        out += bytes([len(distance) * 16 + len(length)]) + length + distance
    return out + b"\0"


def in_clusters(kind, name, runs, size, begun=None, clusters=None, flags=0):
    """The runs are pairs, or bytes as they are to stand there."""
    if clusters is None:
        clusters = sum(many for many, begin in runs)
    place = up_to_8(64 + 2 * len(name))
    told = runs if isinstance(runs, bytes) else run_bytes(runs)
    length = up_to_8(place + len(told))
    head = number(kind, 4) + number(length, 4) + bytes([1, len(name)]) + number(64, 2) + number(flags, 2)
    head += number(0, 2) + number(0, 8) + number(clusters - 1, 8) + number(place, 2) + number(0, 6)
    head += number(size, 8) + number(size, 8) + number(size if begun is None else begun, 8)
    return padded(padded(head + wide(name), place) + told, length)


# Records

def record(length, attributes, uses=1, folder=False):
    data = bytearray(length)
    sectors = length // SECTOR
    begin = up_to_8(RECORD_MARKS + 2 * (sectors + 1))
    body = b"".join(attributes) + b"\xff\xff\xff\xff" + bytes(4)
    if begin + len(body) > length:
        raise ValueError("the attributes don't fit")
    data[0:4] = b"FILE"
    put(data, 4, RECORD_MARKS, 2)
    put(data, 6, sectors + 1, 2)
    put(data, 16, uses, 2)
    put(data, 20, begin, 2)
    put(data, 22, 3 if folder else 1, 2)
    put(data, 24, begin + len(body), 4)
    data[begin:begin + len(body)] = body
    return data


def marked(data, mark=b"\x07\x01"):
    """A copy with the marks put in; where the place told is out of bounds it stays as it is."""
    data = bytearray(data)
    place = int.from_bytes(data[4:6], "little")
    sectors = len(data) // SECTOR
    if place + 2 + 2 * sectors > SECTOR:
        return data
    data[place:place + 2] = mark
    for sector in range(sectors):
        end = sector * SECTOR + SECTOR - 2
        own = place + 2 + 2 * sector
        data[own:own + 2] = data[end:end + 2]
        data[end:end + 2] = mark
    return data


def attribute_place(data, kind, name=""):
    place = int.from_bytes(data[20:22], "little")
    while data[place:place + 4] != b"\xff\xff\xff\xff":
        at = place + int.from_bytes(data[place + 10:place + 12], "little")
        if data[place:place + 4] == number(kind, 4) and data[at:at + 2 * data[place + 9]] == wide(name):
            return place
        place += int.from_bytes(data[place + 4:place + 8], "little")
    raise ValueError("no such attribute")


def content_place(data, kind, name=""):
    place = attribute_place(data, kind, name)
    return place + int.from_bytes(data[place + 20:place + 22], "little")


def runs_place(data, kind, name=""):
    place = attribute_place(data, kind, name)
    return place + int.from_bytes(data[place + 32:place + 34], "little")


# Folders

def entry(name, record_number, uses=1, kind=1, below=None, room=0):
    """The name is a text, or bytes as they are to stand there."""
    letters = name if isinstance(name, bytes) else wide(name)
    inner = bytes(64) + bytes([len(letters) // 2, kind]) + letters
    length = up_to_8(16 + len(inner)) + room + (0 if below is None else 8)
    head = number(record_number, 6) + number(uses, 2) + number(length, 2) + number(len(inner), 2)
    head += number(0 if below is None else 1, 2) + number(0, 2)
    if below is None:
        return padded(head + inner, length)
    return padded(head + inner, length - 8) + number(below, 8)


def last(below=None):
    if below is None:
        return number(0, 8) + number(16, 2) + number(0, 2) + number(2, 2) + number(0, 2)
    return number(0, 8) + number(24, 2) + number(0, 2) + number(3, 2) + number(0, 2) + number(below, 8)


def has_blocks(entries):
    return entries[-1][12] % 2 == 1


def node(entries, begin=16):
    """The entries' bytes; the last one is among them."""
    body = b"".join(entries)
    head = number(begin, 4) + number(begin + len(body), 4) * 2 + bytes([1 if has_blocks(entries) else 0, 0, 0, 0])
    return padded(head, begin) + body


def block(length, k, entries):
    marks_end = BLOCK_MARKS + 2 * (length // SECTOR + 1)
    body = node(entries, up_to_8(marks_end) - 24)
    if 24 + len(body) > length:
        raise ValueError("the entries don't fit")
    data = bytearray(padded(b"INDX" + number(BLOCK_MARKS, 2) + number(length // SECTOR + 1, 2), length))
    put(data, 16, k, 8)
    data[24:24 + len(body)] = body
    return data


def entry_place(data, name):
    """Where the entry of this name begins in a record or a block."""
    at = data.index(wide(name))
    while data[at - 2] != len(name):
        at = data.index(wide(name), at + 1)
    return at - 82


class Disk:
    def __init__(self, per_cluster=1, record_length=1024, block_length=1024, clusters=190, records_cluster=2,
                 record_count=24, record_told=None, block_told=None, records_runs=None):
        self.cluster = per_cluster * SECTOR
        self.record_length = record_length
        self.block_length = block_length
        self.records_cluster = records_cluster
        self.space = bytearray(clusters * self.cluster)
        self.records = {}
        self.blocks = {}
        self.block_places = {}
        self.first = self.first_sector(per_cluster, record_told, block_told)
        many = -(-record_count * record_length // self.cluster)
        self.records_runs = [(many, records_cluster)] if records_runs is None else records_runs
        self.free = max([begin + length for length, begin in self.records_runs if begin is not None]
                        + [records_cluster + 1])
        self.add(0, [in_clusters(0x80, "", self.records_runs, record_count * record_length)])

    def first_sector(self, per_cluster, record_told, block_told):
        data = bytearray(SECTOR)
        data[3:11] = b"NTFS    "
        put(data, 11, SECTOR, 2)
        data[13] = per_cluster
        put(data, 40, len(self.space) // SECTOR, 8)
        put(data, 48, self.records_cluster, 8)
        data[64] = 257 - self.record_length.bit_length() if record_told is None else record_told
        data[68] = 257 - self.block_length.bit_length() if block_told is None else block_told
        data[510:512] = b"\x55\xaa"
        return data

    def allot(self, many):
        begin = self.free
        self.free += many
        if self.free * self.cluster > len(self.space):
            raise ValueError("the volume is full")
        return begin

    def store(self, begin, data):
        self.space[begin * self.cluster:begin * self.cluster + len(data)] = data

    def add(self, at, attributes, uses=1, folder=False):
        common = [here(0x10, "", bytes(48)), here(0x30, "", bytes(66) + b"x\0")]
        self.records[at] = record(self.record_length, common + attributes, uses, folder)

    def add_file(self, at, content=b"", uses=1):
        self.add(at, [here(0x80, "", content)], uses)

    def add_stored_file(self, at, content, uses=1):
        many = -(-len(content) // self.cluster)
        begin = self.allot(many)
        self.store(begin, content)
        self.add(at, [in_clusters(0x80, "", [(many, begin)], len(content))], uses)

    def unit(self):
        return SECTOR if self.cluster > self.block_length else self.cluster

    def add_folder(self, at, entries, blocks=None, uses=1, attributes=()):
        """The entries of the first node, those of the blocks by their numbers; each list without what closes it
        is closed by an entry that is the last."""
        told = here(0x90, "$I30", number(0x30, 4) + number(1, 4) + number(self.block_length, 4) + number(1, 4)
                    + node(closed(entries)))
        own = [told]
        if blocks:
            own.append(self.add_blocks(at, blocks))
        self.add(at, own + list(attributes), uses, folder=True)

    def add_blocks(self, at, blocks):
        size = max(blocks) * self.unit() + self.block_length
        many = -(-size // self.cluster)
        begin = self.allot(many)
        for k, entries in blocks.items():
            self.add_block(at, k, begin * self.cluster + k * self.unit(), entries)
        return in_clusters(0xA0, "$I30", [(many, begin)], size)

    def add_block(self, at, k, place, entries):
        self.blocks[at, k] = block(self.block_length, k, closed(entries))
        self.block_places[at, k] = place

    def record_place(self, at):
        """Where record `at` is laid, by the runs of the records."""
        place = at * self.record_length
        for length, begin in self.records_runs:
            if place < length * self.cluster:
                return begin * self.cluster + place
            place -= length * self.cluster
        raise ValueError("no room for this record")

    def image(self):
        space = bytearray(self.space)
        for key, data in self.blocks.items():
            place = self.block_places[key]
            space[place:place + len(data)] = marked(data)
        for at, data in self.records.items():
            place = self.record_place(at)
            space[place:place + len(data)] = marked(data)
        zero = marked(self.records[0])
        place = self.records_cluster * self.cluster
        space[place:place + len(zero)] = zero
        space[0:SECTOR] = self.first
        return list(space)


def closed(entries):
    """With an entry that is the last, if there's none."""
    if entries and entries[-1][12] & 2:
        return entries
    return list(entries) + [last()]


def sample(**kinds):
    """The volume that most tests begin from.

    /            record 5, one node: ., deep, folder, hello.txt
    /deep        record 16, blocks 0 and 2: a1, m (between them), z1
    /folder      record 17, one node: inner, note
    /folder/inner  record 18, one node, empty
    """
    disk = Disk(**kinds)
    disk.add_folder(TOP, [entry(".", TOP), entry("deep", 16, 3), entry("folder", 17, 4), entry("hello.txt", 19)])
    second = disk.block_length // disk.unit()
    disk.add_folder(16, [entry("m", 20, below=0), last(second)],
                    {0: [entry("a1", 19)], second: [entry("z1", 21)]}, uses=3)
    disk.add_folder(17, [entry("inner", 18), entry("note", 22, 9)], uses=4)
    disk.add_folder(18, [])
    disk.add_file(19, b"hello")
    disk.add_file(20)
    disk.add_stored_file(21, bytes(range(250)) * 5)
    disk.add_file(22, b"a note", uses=9)
    return disk


SAMPLE_TOP = "deep/\nfolder/\nhello.txt 5\n"
SAMPLE_DEEP = "a1 5\nm 0\nz1 1250\n"
SAMPLE_FOLDER = "inner/\nnote 6\n"


def as_bytes(path):
    return list(path.encode("latin-1"))


def image_of(disk):
    return disk.image() if isinstance(disk, Disk) else disk


def checked(told):
    """The bytes that are told, or the refusal's number."""
    if told[0] < 0:
        if len(told) != 1:
            raise AssertionError("a refusal is its number alone")
        return told[0]
    if told[0] != len(told) - 1:
        raise AssertionError("the first number says how many bytes follow")
    return bytes(told[1:])


def answer(disk, path="/", most=MOST):
    """The listing as a text, or the refusal's number."""
    told = checked(list_of(most, image_of(disk), as_bytes(path)))
    return told.decode("latin-1") if isinstance(told, bytes) else told


def file_answer(disk, path, start=0, most=MOST):
    """The file's bytes, or the refusal's number."""
    return checked(file(start, most, image_of(disk), as_bytes(path)))
