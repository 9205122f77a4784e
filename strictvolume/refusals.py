"""The refusals that are found while an image is read."""


# -3: something that is looked at is not as it must be.
class NotSo(Exception):
    pass


# -4: the path leads nowhere.
class NotThere(Exception):
    pass


# -5: the path leads to a file where a folder is asked for, or the other way round.
class WrongSort(Exception):
    pass


# -1: what is told has more bytes than may be.
class TooMany(Exception):
    pass
