"""The calls: a folder of a volume listed, and a file's bytes handed out, each by its path."""

from strictvolume.fields import codes
from strictvolume.folders import entries_in_order
from strictvolume.paths import KIND_NOT_LOOKED_FOR, record_at
from strictvolume.records import Volume, file_part, file_size
from strictvolume.refusals import NotSo, NotThere, TooMany, WrongSort

MOST_BYTES = 33554432
MOST_PATH = 4096


def list_of(most, image, path):
    if not in_bounds(most, image, path):
        return [-2]
    return answered(lambda: listing_at(most, image, path))


def file(start, most, image, path):
    if start < 0 or not in_bounds(most, image, path):
        return [-2]
    return answered(lambda: file_part_at(start, most, image, path))


def in_bounds(most, image, path):
    return 0 <= most <= MOST_BYTES and len(image) <= MOST_BYTES and len(path) <= MOST_PATH


# The one place where both calls' refusals are given their numbers.
def answered(reading):
    try:
        told = reading()
    except NotSo:
        return [-3]
    except NotThere:
        return [-4]
    except WrongSort:
        return [-5]
    except TooMany:
        return [-1]
    return [len(told)] + told


# The listing is made whole before its length is asked: what is wrong in its records is told ahead of that.
def listing_at(most, image, path):
    volume = Volume(image)
    record = record_at(volume, path)
    if not record.is_folder:
        raise WrongSort("a file is not listed")
    listing = []
    for entry in entries_in_order(volume.layout, record):
        if entry.kind != KIND_NOT_LOOKED_FOR and entry.name != codes("."):
            listing.extend(line_of(volume, entry))
    if len(listing) > most:
        raise TooMany("the listing is longer than it may be")
    return listing


def line_of(volume, entry):
    record = volume.record_of(entry)
    ending = "/" if record.is_folder else " " + str(file_size(volume.layout, record))
    return entry.name + codes(ending) + codes("\n")


def file_part_at(start, most, image, path):
    volume = Volume(image)
    record = record_at(volume, path)
    if record.is_folder:
        raise WrongSort("a folder's bytes are not handed out")
    return file_part(volume.layout, record, start, most)
