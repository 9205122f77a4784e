"""Parts and numbers of lists of bytes. What would lie outside its list is refused, never cut short."""

from strictvolume.refusals import NotSo


def must(so):
    if not so:
        raise NotSo("not as it must be")


def codes(text):
    return [ord(sign) for sign in text]


def part(data, place, many):
    must(place + many <= len(data))
    return data[place:place + many]


def number_at(data, place, many):
    total = 0
    for byte in reversed(part(data, place, many)):
        total = total * 256 + byte
    return total


def signed_number_at(data, place, many):
    total = number_at(data, place, many)
    beyond = 1
    for step in range(many):
        beyond = beyond * 256
    return total if total < beyond // 2 else total - beyond


def letters_at(data, place, many):
    return [number_at(data, place + 2 * step, 2) for step in range(many)]
