"""The calls: a folder of a volume, listed by its path."""

from strictvolume.fields import codes
from strictvolume.folders import entries_in_order
from strictvolume.paths import KIND_NOT_LOOKED_FOR, record_at
from strictvolume.records import Volume, file_size
from strictvolume.refusals import NotSo, NotThere, WrongSort

MOST_BYTES = 33554432
MOST_PATH = 4096


def list_of(most, image, path):
    if not in_bounds(most, image, path):
        return [-2]
    try:
        listing = listing_at(image, path)
    except NotSo:
        return [-3]
    except NotThere:
        return [-4]
    except WrongSort:
        return [-5]
    if len(listing) > most:
        return [-1]
    return [len(listing)] + listing


def in_bounds(most, image, path):
    return 0 <= most <= MOST_BYTES and len(image) <= MOST_BYTES and len(path) <= MOST_PATH


# The listing is made whole before its length is asked: what is wrong in its records is told ahead of that.
def listing_at(image, path):
    volume = Volume(image)
    record = record_at(volume, path)
    if not record.is_folder:
        raise WrongSort("a file is not listed")
    listing = []
    for entry in entries_in_order(volume.layout, record):
        if entry.kind != KIND_NOT_LOOKED_FOR and entry.name != codes("."):
            listing.extend(line_of(volume, entry))
    return listing


def line_of(volume, entry):
    record = volume.record_of(entry)
    ending = "/" if record.is_folder else " " + str(file_size(volume.layout, record))
    return entry.name + codes(ending) + codes("\n")
