"""Paths: what stands at their end."""

from strictvolume.fields import codes
from strictvolume.folders import entries_in_order, great_letters
from strictvolume.records import TOP_FOLDER
from strictvolume.refusals import NotThere

KIND_NOT_LOOKED_FOR = 2


def names_in(path):
    stroke = codes("/")[0]
    if path[:1] != [stroke]:
        raise NotThere("the path does not begin with /")
    if len(path) == 1:
        return []
    names = [[]]
    for code in path[1:]:
        if code == stroke:
            names.append([])
        else:
            names[len(names) - 1].append(code)
    return names


def entries_by_name(layout, record):
    by_name = {}
    for entry in entries_in_order(layout, record):
        if entry.kind != KIND_NOT_LOOKED_FOR:
            by_name[tuple(great_letters(entry.name))] = entry
    return by_name


# A path may lead through the same folder again and again (by the name . or round in a ring),
# so what was found of a folder is kept while the path is followed.
def record_at(volume, path):
    record = volume.top
    number = TOP_FOLDER
    folders = {}
    for name in names_in(path):
        if not record.is_folder:
            raise NotThere("the path goes on from a file")
        if number not in folders:
            folders[number] = entries_by_name(volume.layout, record)
        entry = folders[number].get(tuple(great_letters(name)))
        if entry is None:
            raise NotThere("there is none of this name")
        number = entry.number
        record = volume.record_of(entry)
    return record
