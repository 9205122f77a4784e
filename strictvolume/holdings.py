"""What an attribute holds: bytes that stand in it, or bytes in clusters that its runs tell."""

from strictvolume.fields import must, number_at, part, signed_number_at

RUN_BOUND = 4294967296


class HeldHere:
    def __init__(self, attribute):
        many = number_at(attribute.data, 16, 4)
        self.content = part(attribute.data, number_at(attribute.data, 20, 2), many)
        self.size = many

    def taken(self, place, many):
        return part(self.content, place, many)


# Such bytes are taken only as they are asked for: runs of zeros may tell of far more than there is room for.
class HeldInClusters:
    def __init__(self, layout, attribute):
        data = attribute.data
        must(len(data) >= 64)
        must(number_at(data, 16, 8) == 0)
        clusters = clusters_told(data)
        self.layout = layout
        self.size = number_at(data, 48, 8)
        self.begun = number_at(data, 56, 8)
        must(self.size <= clusters * layout.cluster)
        must(self.begun <= self.size)
        self.runs = runs_in(layout, data, number_at(data, 32, 2))
        must(sum([run.clusters for run in self.runs]) == clusters)

    def taken(self, place, many):
        must(place + many <= self.size)
        stored = self.stored_part(place, min(place + many, self.begun))
        return stored + [0] * (many - len(stored))

    def stored_part(self, place, end):
        found = []
        run_place = 0
        for run in self.runs:
            run_end = run_place + run.clusters * self.layout.cluster
            low = max(place, run_place)
            high = min(end, run_end)
            if low < high:
                found.extend(run_part(self.layout, run, low - run_place, high - low))
            run_place = run_end
        return found


# What stands there is one less, and of no clusters that is -1: so it is read with a sign.
def clusters_told(data):
    return signed_number_at(data, 24, 8) + 1


# Where the run begins is None for one of zeros.
class Run:
    def __init__(self, begin, clusters):
        self.begin = begin
        self.clusters = clusters


def run_part(layout, run, place, many):
    if run.begin is None:
        return [0] * many
    return layout.volume_part(run.begin * layout.cluster + place, many)


def runs_in(layout, data, place):
    runs = []
    before = 0
    while number_at(data, place, 1) != 0:
        length_bytes = data[place] % 16
        distance_bytes = data[place] // 16
        must(1 <= length_bytes <= 8 and distance_bytes <= 8)
        clusters = number_at(data, place + 1, length_bytes)
        must(1 <= clusters < RUN_BOUND)
        begin = None
        if distance_bytes > 0:
            begin = before + signed_number_at(data, place + 1 + length_bytes, distance_bytes)
            must(0 <= begin < RUN_BOUND)
            must((begin + clusters) * layout.cluster <= layout.end)
            before = begin
        runs.append(Run(begin, clusters))
        place = place + 1 + length_bytes + distance_bytes
    return runs


def held(layout, attribute):
    if attribute.in_clusters:
        return HeldInClusters(layout, attribute)
    return HeldHere(attribute)
