"""The marks at the ends of the sectors of records and blocks."""

from strictvolume.fields import must, number_at, part
from strictvolume.layout import SECTOR


# Gives back a copy: what was handed in may be a part of the image.
def without_marks(data):
    sectors = len(data) // SECTOR
    place = number_at(data, 4, 2)
    told = number_at(data, 6, 2)
    must(told == sectors + 1)
    must(place % 2 == 0 and place >= 8)
    must(place + 2 * told <= SECTOR - 2)
    mark = part(data, place, 2)
    mended = list(data)
    for sector in range(sectors):
        end = sector * SECTOR + SECTOR - 2
        own = place + 2 + 2 * sector
        must(part(data, end, 2) == mark)
        mended[end] = data[own]
        mended[end + 1] = data[own + 1]
    return mended
