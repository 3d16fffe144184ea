"""A shelf of files in boxes: each change of a file changes as few boxes as can be."""

BEGIN = 1
PUT = 2
TAKE = 3
GROW = 4
COUNT = 5
WHERE = 6
BOX = 7
FILES = 8
SEEK = 9
LEAST = 10
PACK = 11

# How many numbers stand behind each call's number.
ARGUMENTS = {1: 1, 2: 3, 3: 1, 4: 2, 5: 0, 6: 1, 7: 1, 8: 1, 9: 1, 10: 0, 11: 0}

NO_SHELF = -9
NOT_GRANTED = -1
NOT_THERE = -4
THERE_ALREADY = -8
SHELF_FULL = -6

MOST_ROOM = 10000
MOST_FILE = 16383
MOST_KEY = 18446744073709551615
MOST_FILES = 32

# A way's cost is its boxes changed times this, and its files moved: these are
# fewer than this, so fewer boxes always come first.
CHANGED = 64

# Stands for a box, or for the box a file stood in, where there was none before.
NEW = -1

# What is answered for a box in the row where there is none.
NO_BOX = -1

# How far from the file's place a box can be changed at all. A file that grows or
# comes within a box can have a new box, and those behind it there another: 3
# changed at most. One that comes between two boxes can have a new one: 1 changed.
# Boxes that stay the same part the row, and a part without the file's place can
# stay as it is: so the boxes changed stand side by side, with the place in them.
REACH = 2


class Shelf:
    def __init__(self, room):
        self.room = room
        self.key_of = {}
        self.thick_of = {}
        # Each box is its number and the list of its files.
        self.boxes = []
        self.next_number = 0


class Span:
    # The boxes side by side that may be changed, and the files that are to
    # stand there. Boxes are told by their places in the span.
    def __init__(self, olds, files, ends):
        self.olds = olds
        self.files = files
        self.ends = ends
        self.homes = homes_of(olds, files)


class Desk:
    def __init__(self):
        self.shelf = None

    def answer(self, call, numbers):
        if call == BEGIN:
            return self.begin(numbers[0])
        if self.shelf is None:
            return [NO_SHELF]
        return answer_on(self.shelf, call, numbers)

    def begin(self, room):
        if room < 1 or room > MOST_ROOM:
            return [NOT_GRANTED]
        self.shelf = Shelf(room)
        return [0]


def homes_of(olds, files):
    home_of = {}
    for place, old in enumerate(olds):
        for f in old:
            home_of[f] = place
    return [home_of.get(f, NEW) for f in files]


def latest_ends(thicks, room):
    # For each file, where a box that begins with it has to end at the latest.
    ends = []
    for start in range(len(thicks)):
        end = start
        held = 0
        while end < len(thicks) and held + thicks[end] <= room:
            held = held + thicks[end]
            end = end + 1
        ends.append(end)
    return ends


def box_costs(span, start, place):
    # What the box costs if it begins with the file at start: one cost for each
    # end, from one file on to as many as fit.
    costs = []
    moved = 0
    for end in range(start + 1, span.ends[start] + 1):
        if span.homes[end - 1] not in (place, NEW):
            moved = moved + 1
        if place != NEW and span.files[start:end] == span.olds[place]:
            costs.append(moved)
        else:
            costs.append(CHANGED + moved)
    return costs


def first_box(span, start, passed, costs, best):
    # Boxes are tried in the order in which ways are compared, so of those that
    # cost as little the one found first is to stay.
    chosen = None
    for end in range(span.ends[start], start, -1):
        for place in list(range(passed, len(span.olds))) + [NEW]:
            cost = costs[place][end - start - 1]
            if place == NEW:
                cost = cost + best[end][passed][0]
            else:
                cost = cost + (place - passed) * CHANGED + best[end][place + 1][0]
            if chosen is None or cost < chosen[0]:
                chosen = (cost, end, place)
    return chosen


def best_boxes(span):
    # For each file at which a box may begin, and each number of old boxes that
    # stand before it or are gone: the least cost from there on, and how the
    # first box of the way taken ends and which it is. Made from the back, as
    # each draws on those behind it.
    olds = len(span.olds)
    start = len(span.files)
    best = {start: [((olds - passed) * CHANGED, start, NEW) for passed in range(olds + 1)]}
    while start > 0:
        start = start - 1
        costs = {NEW: box_costs(span, start, NEW)}
        for place in range(olds):
            costs[place] = box_costs(span, start, place)
        best[start] = [first_box(span, start, passed, costs, best) for passed in range(olds + 1)]
    return best


def way_taken(span, best):
    way = []
    start = 0
    passed = 0
    while start < len(span.files):
        box = best[start][passed]
        way.append((box[2], span.files[start:box[1]]))
        start = box[1]
        if box[2] != NEW:
            passed = box[2] + 1
    return way


def place_of(shelf, f):
    # Where f stands, or where it belongs: the last box that doesn't begin behind it.
    mark = (shelf.key_of[f], f)
    found = 0
    for place, box in enumerate(shelf.boxes):
        first = box[1][0]
        if (shelf.key_of[first], first) <= mark:
            found = place
    return found


def files_near(shelf, olds, f):
    # f is in no box yet if it comes, and has no thickness any more if it goes.
    near = [f]
    for old in olds:
        near.extend([each for each in old if each != f])
    there = [each for each in near if each in shelf.thick_of]
    return sorted(there, key=lambda each: (shelf.key_of[each], each))


def boxes_of_way(shelf, near, way):
    boxes = []
    for place, files in way:
        if place == NEW:
            boxes.append((shelf.next_number, files))
            shelf.next_number = shelf.next_number + 1
        else:
            boxes.append((near[place][0], files))
    return boxes


def stand_anew(shelf, f):
    place = place_of(shelf, f)
    front = max(0, place - REACH)
    behind = place + REACH + 1
    near = shelf.boxes[front:behind]
    olds = [box[1] for box in near]
    files = files_near(shelf, olds, f)
    span = Span(olds, files, latest_ends([shelf.thick_of[each] for each in files], shelf.room))
    best = best_boxes(span)
    first_new = shelf.next_number
    boxes = boxes_of_way(shelf, near, way_taken(span, best))
    shelf.boxes = shelf.boxes[:front] + boxes + shelf.boxes[behind:]
    cost = best[0][0][0]
    return [len(shelf.boxes), cost // CHANGED, cost % CHANGED, shelf.next_number - first_new]


def put(shelf, f, key, thick):
    if f > MOST_FILE or key > MOST_KEY or thick < 1 or thick > shelf.room:
        return [NOT_GRANTED]
    if f in shelf.thick_of:
        return [THERE_ALREADY]
    if len(shelf.thick_of) == MOST_FILES:
        return [SHELF_FULL]
    shelf.key_of[f] = key
    shelf.thick_of[f] = thick
    return stand_anew(shelf, f)


def take(shelf, f):
    if f > MOST_FILE:
        return [NOT_GRANTED]
    if f not in shelf.thick_of:
        return [NOT_THERE]
    shelf.thick_of.pop(f)
    told = stand_anew(shelf, f)
    # Its key tells where it stood, so that goes last.
    shelf.key_of.pop(f)
    return told


def grow(shelf, f, thick):
    if f > MOST_FILE or thick < 1 or thick > shelf.room:
        return [NOT_GRANTED]
    if f not in shelf.thick_of:
        return [NOT_THERE]
    shelf.thick_of[f] = thick
    return stand_anew(shelf, f)


def count_all(shelf):
    thick = sum(shelf.thick_of.values())
    return [len(shelf.boxes), len(shelf.thick_of), thick, shelf.next_number]


def where(shelf, f):
    if f > MOST_FILE:
        return [NOT_GRANTED]
    if f not in shelf.thick_of:
        return [NOT_THERE]
    place = place_of(shelf, f)
    number = shelf.boxes[place][0]
    files = shelf.boxes[place][1]
    index = files.index(f)
    before = sum([shelf.thick_of[each] for each in files[:index]])
    return [0, number, place, index, before]


def tell_box(shelf, at):
    if at >= len(shelf.boxes):
        return [NOT_THERE]
    number = shelf.boxes[at][0]
    files = shelf.boxes[at][1]
    held = sum([shelf.thick_of[f] for f in files])
    return [len(files), number, files[0], shelf.room - held]


def tell_files(shelf, at):
    if at >= len(shelf.boxes):
        return [NOT_THERE]
    files = shelf.boxes[at][1]
    return [len(files)] + files


def seek(shelf, key):
    if key > MOST_KEY:
        return [NOT_GRANTED]
    lesser = 0
    for place, box in enumerate(shelf.boxes):
        for f in box[1]:
            if shelf.key_of[f] >= key:
                return [lesser, place]
            lesser = lesser + 1
    return [lesser, NO_BOX]


def filled_from_front(shelf):
    # Each box ends as far behind as it can, so the next one begins as far behind
    # as it can: no other row that holds all files has fewer boxes.
    files = []
    for box in shelf.boxes:
        files.extend(box[1])
    ends = latest_ends([shelf.thick_of[f] for f in files], shelf.room)
    filled = []
    start = 0
    while start < len(files):
        filled.append(files[start:ends[start]])
        start = ends[start]
    return filled


def least(shelf):
    return [len(filled_from_front(shelf))]


def pack(shelf):
    filled = filled_from_front(shelf)
    changed = len(shelf.boxes) - len(filled)
    moved = 0
    boxes = []
    # There are never more filled boxes than stand there, so none is new.
    for box, files in zip(shelf.boxes, filled):
        if files != box[1]:
            changed = changed + 1
        moved = moved + len([f for f in files if f not in box[1]])
        boxes.append((box[0], files))
    shelf.boxes = boxes
    return [len(boxes), changed, moved, 0]


def look_at(shelf, call, numbers):
    if call == COUNT:
        return count_all(shelf)
    if call == WHERE:
        return where(shelf, numbers[0])
    if call == BOX:
        return tell_box(shelf, numbers[0])
    if call == FILES:
        return tell_files(shelf, numbers[0])
    if call == SEEK:
        return seek(shelf, numbers[0])
    return least(shelf)


def answer_on(shelf, call, numbers):
    if call == PUT:
        return put(shelf, numbers[0], numbers[1], numbers[2])
    if call == TAKE:
        return take(shelf, numbers[0])
    if call == GROW:
        return grow(shelf, numbers[0], numbers[1])
    if call == PACK:
        return pack(shelf)
    return look_at(shelf, call, numbers)


def answers(calls):
    desk = Desk()
    given = []
    at = 0
    while at < len(calls):
        call = calls[at]
        behind = at + 1 + ARGUMENTS[call]
        told = desk.answer(call, calls[at + 1:behind])
        given.append(len(told))
        given.extend(told)
        at = behind
    return given
