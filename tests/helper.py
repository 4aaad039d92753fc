"""Calls by name for the tests, and a look at all that can be seen of an object."""

from hullseams.seams import answers

NAMES = (
    "begin", "part", "seam", "weld", "cut", "strain",
    "order", "least", "sofar", "locked", "many",
)
BIGGEST = 4294967295


def flat(calls):
    """The calls, each a name and its numbers, as the one list that is handed in."""
    numbers = []
    for name, *given in calls:
        numbers.append(NAMES.index(name))
        numbers.extend(given)
    return numbers


def parted(told):
    """The list that is given back, as one list for each call."""
    result = []
    place = 0
    while place < len(told):
        count = told[place]
        answer = told[place + 1:place + 1 + count]
        if count < 1 or len(answer) != count:
            raise AssertionError(f"counts are off in {told!r}")
        result.append(answer)
        place += 1 + count
    return result


def ask(*calls):
    """What is answered to each of these calls on a new object."""
    result = parted(answers(flat(calls)))
    if len(result) != len(calls):
        raise AssertionError(f"{len(calls)} calls, {len(result)} answers")
    return result


def last(*calls):
    return ask(*calls)[-1]


def hull(parts, *seams):
    """The calls that make a hull of so many parts and these seams."""
    return [("begin", parts)] + [("seam", *seam) for seam in seams]


def welds(*numbers):
    return [("weld", k) for k in numbers]


def all_seen(calls):
    """All that later calls can tell of the object that these calls leave."""
    probes = [
        [("order",), ("least",), ("sofar",), ("locked",), ("many",)],
        [("part",), ("part",), ("part",), ("part",), ("part",), ("part",), ("part",), ("part",)],
        [("seam", 0, 1, 1)] * 11,
    ]
    for x in range(7):
        probes.append([("seam", x, (x + 1) % 7, 1), ("order",), ("locked",)])
    for k in range(10):
        probes.append([("weld", k), ("least",), ("locked",), ("many",)])
        probes.append([("cut", k), ("least",), ("locked",), ("many",)])
        probes.append([("strain", k, 500), ("least",), ("order",)])
    return [ask(*calls, *probe)[len(calls):] for probe in probes]
