"""What the tests share: how calls are written and answers read, and the document's words done the long way.

`Reference` answers calls as the document tells it, by going through ALL ways of standing anew
one by one, or, for shelves on which these are too many, by a search of the whole row. It draws on
nothing of the program.
"""

from functools import lru_cache
from itertools import combinations

NEW = -1


def begin(room):
    return [1, room]


def put(f, key, thick):
    return [2, f, key, thick]


def take(f):
    return [3, f]


def grow(f, thick):
    return [4, f, thick]


def count():
    return [5]


def where(f):
    return [6, f]


def box_at(at):
    return [7, at]


def files_at(at):
    return [8, at]


def seek(key):
    return [9, key]


def least():
    return [10]


def pack():
    return [11]


def written(calls):
    return [number for call in calls for number in call]


def read(given):
    told = []
    at = 0
    while at < len(given):
        width = given[at]
        told.append(given[at + 1:at + 1 + width])
        at += 1 + width
    assert at == len(given)
    return told


def rows_of_files(files, thick, room):
    """All ways to part the files, in their order, into boxes of one or more that fit."""
    gaps = range(1, len(files))
    for boxes in range(0 if not files else 1, len(files) + 1):
        for cuts in combinations(gaps, max(boxes - 1, 0)):
            edges = [0, *cuts, len(files)] if files else [0]
            row = [tuple(files[a:b]) for a, b in zip(edges, edges[1:])]
            if all(sum(thick[f] for f in box) <= room for box in row):
                yield row


def rows_of_boxes(many, olds):
    """All ways to say of so many boxes which stood there before, in their order, and which are new."""
    for kept in range(min(many, olds) + 1):
        for spots in combinations(range(many), kept):
            for chosen in combinations(range(olds), kept):
                row = [NEW] * many
                for spot, old in zip(spots, chosen):
                    row[spot] = old
                yield row


def all_ways(olds, files, thick, room):
    """Each way is a list of boxes: (place of the old box or NEW, its files)."""
    for parts in rows_of_files(files, thick, room):
        for labels in rows_of_boxes(len(parts), len(olds)):
            yield list(zip(labels, parts))


def boxes_changed(olds, way):
    new = sum(1 for place, files in way if place == NEW)
    kept = {place: files for place, files in way if place != NEW}
    gone = sum(1 for place in range(len(olds)) if place not in kept)
    other = sum(1 for place, files in kept.items() if set(files) != set(olds[place]))
    return new + gone + other


def files_moved(olds, way):
    before = {f: place for place, old in enumerate(olds) for f in old}
    return sum(1 for place, files in way for f in files if f in before and before[f] != place)


def place_first(files, place):
    """Boxes sorted by this: more files first, then an old box, the one further in front, then a new one."""
    return -len(files), place == NEW, place


def order_of_ways(way):
    return [place_first(files, place) for place, files in way]


def ways_by_words(olds, files, thick, room):
    """How many boxes the ways taken change, how many files they move, and these ways, the first one first."""
    fewest = None
    ways = []
    for way in all_ways(olds, files, thick, room):
        told = (boxes_changed(olds, way), files_moved(olds, way))
        if fewest is None or told < fewest:
            fewest = told
            ways = []
        if told == fewest:
            ways.append(way)
    return fewest[0], fewest[1], sorted(ways, key=order_of_ways)


def ways_by_search(olds, files, thick, room):
    """The same, but of the ways the first alone: from each file on, every box that may begin there is tried."""
    before = {f: place for place, old in enumerate(olds) for f in old}

    @lru_cache(maxsize=None)
    def rest(start, passed):
        # What the boxes from this file on cost, the old boxes before `passed` being told already: boxes
        # changed, files moved, the boxes as `order_of_ways` has them. Of tuples the least is the way taken.
        if start == len(files):
            return len(olds) - passed, 0, ()
        found = None
        held = 0
        for end in range(start + 1, len(files) + 1):
            held += thick[files[end - 1]]
            if held > room:
                break
            held_files = tuple(files[start:end])
            for place in [NEW, *range(passed, len(olds))]:
                behind = rest(end, passed if place == NEW else place + 1)
                gone = 0 if place == NEW else place - passed
                other = place == NEW or held_files != tuple(olds[place])
                if found is not None and gone + other + behind[0] > found[0]:
                    continue
                moved = sum(1 for f in held_files if before.get(f, place) != place)
                box = (place_first(held_files, place),)
                told = (gone + other + behind[0], moved + behind[1], box + behind[2])
                if found is None or told < found:
                    found = told
        return found

    changed, moved, boxes = rest(0, 0)
    way, start = [], 0
    for many, new, place in boxes:
        way.append((place, tuple(files[start:start - many])))
        start -= many
    return changed, moved, [way]


class Reference:
    def __init__(self, find_ways=ways_by_words):
        self.find_ways = find_ways
        self.room = None
        self.ties = 0
        self.many_changed = 0

    def answer(self, call):
        names = {1: self.begin, 2: self.put, 3: self.take, 4: self.grow, 5: self.count, 6: self.where,
                 7: self.box, 8: self.files_of, 9: self.seek, 10: self.least, 11: self.pack}
        if call[0] != 1 and self.room is None:
            return [-9]
        return names[call[0]](*call[1:])

    def begin(self, room):
        if not 1 <= room <= 10000:
            return [-1]
        self.room, self.files, self.boxes, self.came = room, {}, [], 0
        return [0]

    def put(self, f, key, thick):
        if f > 16383 or key >= 2 ** 64 or not 1 <= thick <= self.room:
            return [-1]
        if f in self.files:
            return [-8]
        if len(self.files) == 32:
            return [-6]
        self.files[f] = (key, thick)
        return self.stand_anew()

    def take(self, f):
        if f > 16383:
            return [-1]
        if f not in self.files:
            return [-4]
        del self.files[f]
        return self.stand_anew()

    def grow(self, f, thick):
        if f > 16383 or not 1 <= thick <= self.room:
            return [-1]
        if f not in self.files:
            return [-4]
        self.files[f] = (self.files[f][0], thick)
        return self.stand_anew()

    def count(self):
        return [len(self.boxes), len(self.files), sum(thick for key, thick in self.files.values()), self.came]

    def where(self, f):
        if f > 16383:
            return [-1]
        for at, (number, files) in enumerate(self.boxes):
            if f in files:
                index = files.index(f)
                return [0, number, at, index, sum(self.files[g][1] for g in files[:index])]
        return [-4]

    def box(self, at):
        if at >= len(self.boxes):
            return [-4]
        number, files = self.boxes[at]
        return [len(files), number, files[0], self.room - sum(self.files[f][1] for f in files)]

    def files_of(self, at):
        if at >= len(self.boxes):
            return [-4]
        return [len(self.boxes[at][1]), *self.boxes[at][1]]

    def seek(self, key):
        if key >= 2 ** 64:
            return [-1]
        lesser = [f for f in self.files if self.files[f][0] < key]
        others = [f for f in self.in_order() if f not in lesser]
        return [len(lesser), self.where(others[0])[2] if others else -1]

    def least(self):
        # From the front on, how few boxes hold the files up to each one, its box ending there.
        thick = [self.files[f][1] for f in self.in_order()]
        few = [0]
        for end in range(1, len(thick) + 1):
            few.append(1 + min(few[start] for start in range(end) if sum(thick[start:end]) <= self.room))
        return [few[-1]]

    def pack(self):
        row, held = [], 0
        for f in self.in_order():
            if not row or held + self.files[f][1] > self.room:
                row.append(())
                held = 0
            row[-1] += (f,)
            held += self.files[f][1]
        way = list(enumerate(row))
        olds = [box for number, box in self.boxes]
        self.boxes = [(self.boxes[place][0], box) for place, box in way]
        return [len(row), boxes_changed(olds, way), files_moved(olds, way), 0]

    def in_order(self):
        return sorted(self.files, key=lambda f: (self.files[f][0], f))

    def stand_anew(self):
        files = self.in_order()
        thick = {f: self.files[f][1] for f in files}
        olds = [box for number, box in self.boxes]
        changed, moved, ways = self.find_ways(olds, files, thick, self.room)
        self.ties += len(ways) > 1
        self.many_changed += changed > 1
        new = 0
        row = []
        for place, box in ways[0]:
            if place == NEW:
                row.append((self.came, box))
                self.came += 1
                new += 1
            else:
                row.append((self.boxes[place][0], box))
        self.boxes = row
        return [len(row), changed, moved, new]
