"""Calls by name for the tests, a look at all that can be seen of an object, and small hulls to try all on."""

import itertools
import random

from hullseams.seams import answers

NAMES = (
    "begin", "part", "seam", "weld", "cut", "strain",
    "order", "least", "sofar", "locked", "many",
    "hang", "way", "ring", "pieces", "together", "holds", "next", "worth", "look", "told",
)
MOST_CALLS = 80
BIGGEST = 4294967295


def flat(calls):
    """The calls, each a name and its numbers, as the one list that is handed in."""
    numbers = []
    for name, *given in calls:
        numbers.append(NAMES.index(name))
        numbers.extend(given)
    return numbers


def parted(told):
    """The list that is given back, as one list for each call."""
    result = []
    place = 0
    while place < len(told):
        count = told[place]
        answer = told[place + 1:place + 1 + count]
        if count < 1 or len(answer) != count:
            raise AssertionError(f"counts are off in {told!r}")
        result.append(answer)
        place += 1 + count
    return result


def ask(*calls):
    """What is answered to each of these calls on a new object."""
    if len(calls) > MOST_CALLS:
        raise AssertionError(f"{len(calls)} calls are more than a line holds")
    result = parted(answers(flat(calls)))
    if len(result) != len(calls):
        raise AssertionError(f"{len(calls)} calls, {len(result)} answers")
    return result


def last(*calls):
    return ask(*calls)[-1]


def hull(parts, *seams):
    """The calls that make a hull of so many parts and these seams."""
    return [("begin", parts)] + [("seam", *seam) for seam in seams]


def welds(*numbers):
    return [("weld", k) for k in numbers]


def all_seen(calls):
    """All that later calls can tell of the object that these calls leave."""
    probes = [
        [("order",), ("least",), ("sofar",), ("locked",), ("many",)],
        [("pieces",), ("together",), ("holds",), ("next",), ("told",)],
        [("look", k) for k in range(10)] + [("worth", k) for k in range(10)] + [("ring", k) for k in range(10)],
        [("part",), ("part",), ("part",), ("part",), ("part",), ("part",), ("part",), ("part",)],
        [("seam", 0, 1, 1)] * 11,
    ]
    for x in range(7):
        probes.append([("seam", x, (x + 1) % 7, 1), ("order",), ("locked",)])
        probes.append([("hang", x, y) for y in range(7)] + [("way", x, y) for y in range(7)])
    for k in range(10):
        probes.append([("weld", k), ("least",), ("locked",), ("many",)])
        probes.append([("cut", k), ("least",), ("locked",), ("many",)])
        probes.append([("strain", k, 500), ("least",), ("order",)])
    return [ask(*calls, *probe)[len(calls):] for probe in probes]


def hang_together(seams, x, y):
    """Whether one comes from x to y by these seams, walking from part to part."""
    reached = {x}
    grown = True
    while grown:
        near = {b for a, b, s in seams if a in reached} | {a for a, b, s in seams if b in reached}
        grown = not near <= reached
        reached |= near
    return y in reached


def count_pieces(parts, seams):
    return len({tuple(y for y in range(parts) if hang_together(seams, x, y)) for x in range(parts)})


def small_hulls():
    """Hulls of few parts, each with some seams welded already."""
    for parts in (2, 3):
        pairs = list(itertools.combinations(range(parts), 2))
        for count in range(4):
            for ends in itertools.product(pairs, repeat=count):
                for strains in itertools.product((1, 2, 3), repeat=count):
                    seams = [(x, y, s) for (x, y), s in zip(ends, strains)]
                    yield parts, seams, []
    source = random.Random(20)
    for turn in range(60):
        parts = source.randint(2, 5)
        seams = []
        for k in range(source.randint(3, 6)):
            x, y = source.sample(range(parts), 2)
            seams.append((x, y, source.choice((1, 2, 2, 5, 7, 1000))))
        numbers = list(range(len(seams)))
        source.shuffle(numbers)
        yield parts, seams, numbers[:source.randint(max(0, len(seams) - 5), 3)]


def every_way(seams, x, y):
    """All ways from x to y by these seams, told by number, that come to no part twice."""
    found = []
    waiting = [(x, (), {x})]
    while waiting:
        part, way, seen = waiting.pop()
        if part == y:
            found.append(list(way))
            continue
        for k, (a, b, s) in seams.items():
            for here, there in ((a, b), (b, a)):
                if here == part and there not in seen:
                    waiting.append((there, way + (k,), seen | {there}))
    return found


def first_way(seams, x, y):
    """Of every way one with fewest seams, of like ones the first; None if there's none."""
    return min(every_way(seams, x, y), key=lambda way: (len(way), way), default=None)
