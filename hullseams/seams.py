"""Seams between the parts of a hull: which are locked when welded, how much they strain, which ring they close."""

MOST_PARTS = 7
MOST_SEAMS = 10
MOST_STRAIN = 1000

NO_SUCH = -2
NOT_WELDED = -6
ALL_WELDED = -6
NOT_BEGUN = -11
WELDED_ALREADY = -17
OUT_OF_BOUNDS = -22
FULL = -28
NOT_TOGETHER = -33


class Seam:
    def __init__(self, x, y, strain):
        self.x = x
        self.y = y
        self.strain = strain
        self.welded = False
        # Kept, not worked out anew: a seam stays as it was welded when others are cut.
        self.locked = False


class Hull:
    def __init__(self):
        self.begun = False
        self.part_count = 0
        self.seams = []


def is_part(hull, x):
    return 0 <= x < hull.part_count


def is_seam(hull, k):
    return 0 <= k < len(hull.seams)


def is_strain(s):
    return 1 <= s <= MOST_STRAIN


def seams_by_weld(hull, welded):
    """The numbers, rising, of all seams that are welded, or of all that aren't."""
    return [k for k, seam in enumerate(hull.seams) if seam.welded == welded]


def pieces_by(hull, numbers):
    """For each part a mark, the same for parts that hang together by these seams."""
    marks = list(range(hull.part_count))
    for k in numbers:
        marks = joined(marks, hull.seams[k])
    return marks


def joined(marks, seam):
    """The marks once this seam is welded too."""
    kept = marks[seam.x]
    lost = marks[seam.y]
    return [kept if mark == lost else mark for mark in marks]


def locked_of(hull, numbers):
    """Those of these seams that are locked if they're welded now in this order."""
    marks = pieces_by(hull, seams_by_weld(hull, True))
    locked = []
    for k in numbers:
        seam = hull.seams[k]
        if marks[seam.x] == marks[seam.y]:
            locked.append(k)
        marks = joined(marks, seam)
    return locked


def would_be_locked(hull, k):
    return locked_of(hull, [k]) == [k]


def order_told(hull):
    """The seams that aren't welded, those that would strain most first, of like ones by number."""
    return sorted(seams_by_weld(hull, False), key=lambda k: (-hull.seams[k].strain, k))


def strain_of(hull, numbers):
    return sum([hull.seams[k].strain for k in numbers])


def strain_so_far(hull):
    return sum([seam.strain for seam in hull.seams if seam.locked])


def count_pieces(hull, numbers):
    return len(set(pieces_by(hull, numbers)))


def hang_together(hull, numbers, x, y):
    marks = pieces_by(hull, numbers)
    return marks[x] == marks[y]


def holds_alone(hull, k):
    """Whether this welded seam's parts wouldn't hang together by the other welded ones."""
    others = [other for other in seams_by_weld(hull, True) if other != k]
    seam = hull.seams[k]
    return not hang_together(hull, others, seam.x, seam.y)


def part_across(seam, part):
    """The part to which one comes from this part by this seam; None if it isn't at it."""
    if part == seam.x:
        return seam.y
    if part == seam.y:
        return seam.x
    return None


def ways_one_further(hull, ways, newest):
    """From the newest of these ways on, those to the parts that none leads to yet."""
    further = {}
    for part, way in newest.items():
        for k in seams_by_weld(hull, True):
            across = part_across(hull.seams[k], part)
            if across is not None and across not in ways:
                # The new ways of a round are of one length, so the least is the first of like ones.
                longer = way + [k]
                further[across] = min(longer, further.get(across, longer))
    return further


def ways_from(hull, x):
    """For each part that hangs together with x by what's welded, the way told to it."""
    ways = {x: []}
    newest = {x: []}
    while newest:
        newest = ways_one_further(hull, ways, newest)
        ways.update(newest)
    return ways


def way_or_refusal(hull, x, y):
    way = ways_from(hull, x).get(y)
    if way is None:
        return [NOT_TOGETHER]
    return counted(way)


def counted(numbers):
    return [len(numbers)] + numbers


def answer_begin(hull, given):
    n = given[0]
    if n > MOST_PARTS:
        return [OUT_OF_BOUNDS]
    hull.begun = True
    hull.part_count = n
    hull.seams = []
    return [0]


def answer_part(hull, given):
    if hull.part_count == MOST_PARTS:
        return [FULL]
    hull.part_count += 1
    return [hull.part_count - 1]


def answer_seam(hull, given):
    x = given[0]
    y = given[1]
    s = given[2]
    if not is_part(hull, x) or not is_part(hull, y):
        return [NO_SUCH]
    if x == y or not is_strain(s):
        return [OUT_OF_BOUNDS]
    if len(hull.seams) == MOST_SEAMS:
        return [FULL]
    hull.seams.append(Seam(x, y, s))
    return [len(hull.seams) - 1]


def answer_weld(hull, given):
    k = given[0]
    if not is_seam(hull, k):
        return [NO_SUCH]
    seam = hull.seams[k]
    if seam.welded:
        return [WELDED_ALREADY]
    seam.locked = would_be_locked(hull, k)
    seam.welded = True
    return [1 if seam.locked else 0, strain_so_far(hull)]


def answer_cut(hull, given):
    k = given[0]
    if not is_seam(hull, k):
        return [NO_SUCH]
    seam = hull.seams[k]
    if not seam.welded:
        return [NOT_WELDED]
    was_locked = seam.locked
    seam.welded = False
    seam.locked = False
    return [1 if was_locked else 0]


def answer_strain(hull, given):
    k = given[0]
    s = given[1]
    if not is_seam(hull, k):
        return [NO_SUCH]
    if not is_strain(s):
        return [OUT_OF_BOUNDS]
    seam = hull.seams[k]
    was = seam.strain
    seam.strain = s
    return [was]


def answer_order(hull, given):
    return counted(order_told(hull))


def answer_least(hull, given):
    locked = locked_of(hull, order_told(hull))
    return [strain_of(hull, locked), strain_so_far(hull)]


def answer_sofar(hull, given):
    return [strain_so_far(hull)]


def answer_locked(hull, given):
    return counted(locked_of(hull, order_told(hull)))


def answer_many(hull, given):
    return [len(locked_of(hull, seams_by_weld(hull, False)))]


def answer_hang(hull, given):
    x = given[0]
    y = given[1]
    if not is_part(hull, x) or not is_part(hull, y):
        return [NO_SUCH]
    return [1 if hang_together(hull, seams_by_weld(hull, True), x, y) else 0]


def answer_way(hull, given):
    x = given[0]
    y = given[1]
    if not is_part(hull, x) or not is_part(hull, y):
        return [NO_SUCH]
    return way_or_refusal(hull, x, y)


def answer_ring(hull, given):
    k = given[0]
    if not is_seam(hull, k):
        return [NO_SUCH]
    seam = hull.seams[k]
    if seam.welded:
        return [WELDED_ALREADY]
    return way_or_refusal(hull, seam.x, seam.y)


def answer_pieces(hull, given):
    return [count_pieces(hull, seams_by_weld(hull, True))]


def answer_together(hull, given):
    return [count_pieces(hull, list(range(len(hull.seams))))]


def answer_holds(hull, given):
    return counted([k for k in seams_by_weld(hull, True) if holds_alone(hull, k)])


def answer_next(hull, given):
    order = order_told(hull)
    if not order:
        return [ALL_WELDED]
    return [order[0], 1 if would_be_locked(hull, order[0]) else 0]


def answer_worth(hull, given):
    k = given[0]
    if not is_seam(hull, k):
        return [NO_SUCH]
    if hull.seams[k].welded:
        return [WELDED_ALREADY]
    order = order_told(hull)
    # Welding k leaves the others' strains as they are, so the order told then is this one without k.
    changed = [k] + [other for other in order if other != k]
    return [strain_of(hull, locked_of(hull, changed)) - strain_of(hull, locked_of(hull, order))]


def answer_look(hull, given):
    k = given[0]
    if not is_seam(hull, k):
        return [NO_SUCH]
    seam = hull.seams[k]
    return [seam.strain, seam.x, seam.y, 1 if seam.welded else 0, 1 if seam.locked else 0]


def answer_told(hull, given):
    return [hull.part_count, len(hull.seams), len(seams_by_weld(hull, True))]


# A call's number is its place in both of these.
ANSWERERS = (
    answer_begin,
    answer_part,
    answer_seam,
    answer_weld,
    answer_cut,
    answer_strain,
    answer_order,
    answer_least,
    answer_sofar,
    answer_locked,
    answer_many,
    answer_hang,
    answer_way,
    answer_ring,
    answer_pieces,
    answer_together,
    answer_holds,
    answer_next,
    answer_worth,
    answer_look,
    answer_told,
)
GIVEN_COUNTS = (1, 0, 3, 1, 1, 2, 0, 0, 0, 0, 0, 2, 2, 1, 0, 0, 0, 0, 1, 1, 0)
BEGIN = 0


def answer_call(hull, number, given):
    if number != BEGIN and not hull.begun:
        return [NOT_BEGUN]
    return ANSWERERS[number](hull, given)


def answers(calls):
    """For each call, in order, how many numbers are answered, then these."""
    hull = Hull()
    told = []
    place = 0
    while place < len(calls):
        number = calls[place]
        behind = place + 1 + GIVEN_COUNTS[number]
        answer = answer_call(hull, number, calls[place + 1:behind])
        told.append(len(answer))
        told.extend(answer)
        place = behind
    return told
