"""What holds, by trying every order; and lines held against another way of counting."""

import itertools
import random
import unittest

from tests.helper import (
    BIGGEST, ask, count_pieces, first_way, hang_together, hull, last, small_hulls, welds,
)


class EveryOrder(unittest.TestCase):
    def strain_and_count(self, old, order):
        """What the welds themselves tell: how much more strains, how many are locked."""
        told = ask(*old, ("sofar",), *welds(*order), ("sofar",))[len(old):]
        return told[-1][0] - told[0][0], sum(answer[0] for answer in told[1:-1])

    def check(self, parts, seams, welded):
        old = hull(parts, *seams) + welds(*welded)
        told = ask(*old, ("order",), ("least",), ("locked",), ("many",))[len(old):]
        order = told[0][1:]
        free = [k for k in range(len(seams)) if k not in welded]
        self.assertEqual(told[0][0], len(order))
        self.assertEqual(sorted(order), free)
        self.assertEqual(self.strain_and_count(old, order), (told[1][0], told[3][0]))
        fewer = count_pieces(parts, [seams[k] for k in welded]) - count_pieces(parts, seams)
        self.assertEqual(told[3], [len(free) - fewer])
        self.assertEqual(told[2][0], told[3][0])
        for other in itertools.permutations(free):
            strain, count = self.strain_and_count(old, other)
            self.assertGreaterEqual(strain, told[1][0])
            self.assertEqual(count, told[3][0])

    def test_few_parts_and_seams(self):
        for parts, seams, welded in small_hulls():
            with self.subTest(parts=parts, seams=seams, welded=welded):
                self.check(parts, seams, welded)

    def test_a_locked_one_whose_ring_is_cut(self):
        seams = [(0, 1, 5), (1, 2, 7), (2, 0, 11), (2, 3, 4), (3, 0, 6)]
        old = hull(4, *seams) + welds(0, 1, 2) + [("cut", 0), ("cut", 1)]
        least = last(*old, ("least",))
        many = last(*old, ("many",))[0]
        self.assertEqual(least[1], 11)
        for other in itertools.permutations((0, 1, 3, 4)):
            strain, count = self.strain_and_count(old, other)
            self.assertGreaterEqual(strain, least[0])
            self.assertEqual(count, many)


class Plain:
    """The same promises, told by walking from part to part each time."""

    def __init__(self):
        self.parts = None
        self.seams = []
        self.welded = {}

    def locked_in(self, order):
        before = [self.seams[k] for k in self.welded]
        result = []
        for k in order:
            if hang_together(before, *self.seams[k][:2]):
                result.append(k)
            before.append(self.seams[k])
        return result

    def so_far(self):
        return sum(self.seams[k][2] for k, locked in self.welded.items() if locked)

    def rest(self):
        return [k for k in range(len(self.seams)) if k not in self.welded]

    def in_order(self):
        rest = self.rest()
        return [k for s in range(1000, 0, -1) for k in rest if self.seams[k][2] == s]

    def call(self, name, *given):
        if name == "begin":
            if given[0] > 7:
                return [-22]
            self.__init__()
            self.parts = given[0]
            return [0]
        if self.parts is None:
            return [-11]
        return getattr(self, name)(*given)

    def part(self):
        if self.parts == 7:
            return [-28]
        self.parts += 1
        return [self.parts - 1]

    def seam(self, x, y, s):
        if max(x, y) >= self.parts:
            return [-2]
        if x == y or s not in range(1, 1001):
            return [-22]
        if len(self.seams) == 10:
            return [-28]
        self.seams.append((x, y, s))
        return [len(self.seams) - 1]

    def weld(self, k):
        if k >= len(self.seams):
            return [-2]
        if k in self.welded:
            return [-17]
        self.welded[k] = self.locked_in([k]) == [k]
        return [int(self.welded[k]), self.so_far()]

    def cut(self, k):
        if k >= len(self.seams):
            return [-2]
        if k not in self.welded:
            return [-6]
        return [int(self.welded.pop(k))]

    def strain(self, k, s):
        if k >= len(self.seams):
            return [-2]
        if s not in range(1, 1001):
            return [-22]
        x, y, was = self.seams[k]
        self.seams[k] = (x, y, s)
        return [was]

    def order(self):
        return [len(self.rest())] + self.in_order()

    def least(self):
        return [sum(self.seams[k][2] for k in self.locked_in(self.in_order())), self.so_far()]

    def sofar(self):
        return [self.so_far()]

    def locked(self):
        found = self.locked_in(self.in_order())
        return [len(found)] + found

    def many(self):
        return [len(self.locked_in(self.rest()))]

    def now(self):
        return {k: self.seams[k] for k in self.welded}

    def hang(self, x, y):
        if max(x, y) >= self.parts:
            return [-2]
        return [int(hang_together(self.now().values(), x, y))]

    def way(self, x, y):
        if max(x, y) >= self.parts:
            return [-2]
        way = first_way(self.now(), x, y)
        return [-33] if way is None else [len(way)] + way

    def ring(self, k):
        if k >= len(self.seams):
            return [-2]
        if k in self.welded:
            return [-17]
        return self.way(*self.seams[k][:2])

    def pieces(self):
        return [count_pieces(self.parts, self.now().values())]

    def together(self):
        return [count_pieces(self.parts, self.seams)]

    def holds(self):
        found = []
        for k in sorted(self.welded):
            others = [seam for other, seam in self.now().items() if other != k]
            if not hang_together(others, *self.seams[k][:2]):
                found.append(k)
        return [len(found)] + found

    def next(self):
        if not self.rest():
            return [-6]
        first = self.in_order()[0]
        return [first, len(self.locked_in([first]))]

    def worth(self, k):
        if k >= len(self.seams):
            return [-2]
        if k in self.welded:
            return [-17]
        now = self.least()[0]
        self.weld(k)
        then = self.least()[0]
        own = self.seams[k][2] * self.cut(k)[0]
        return [own + then - now]

    def look(self, k):
        if k >= len(self.seams):
            return [-2]
        x, y, s = self.seams[k]
        return [s, x, y, int(k in self.welded), int(self.welded.get(k, False))]

    def told(self):
        return [self.parts, len(self.seams), len(self.welded)]


def some_call(source):
    name = source.choice(
        ("seam",) * 5 + ("weld",) * 6 + ("cut",) * 3 + ("strain",) * 2
        + ("part", "order", "least", "sofar", "locked", "many")
        + ("hang", "way", "way", "ring", "ring", "pieces", "together", "holds", "next", "worth", "look", "told")
    )
    part = source.choice((2, 4, 7, 8))
    strain = source.choice((0, 1, 2, 2, 5, 9, 500, 1000, 1001, BIGGEST))
    number = source.choice((source.randrange(4), source.randrange(12), source.randrange(10)))
    if source.randrange(60) == 0:
        return ("begin", source.choice((0, 3, 5, 7, 8, BIGGEST)))
    if name == "seam":
        return (name, source.randrange(part), source.randrange(part), strain)
    if name == "strain":
        return (name, number, strain)
    if name in ("hang", "way"):
        return (name, source.randrange(part), source.randrange(part))
    if name in ("weld", "cut", "ring", "worth", "look"):
        return (name, number)
    return (name,)


class AgainstThePlainOne(unittest.TestCase):
    def test_many_lines(self):
        source = random.Random(7)
        for turn in range(1500):
            calls = [some_call(source) for k in range(source.randint(1, 80))]
            if source.randrange(10):
                calls[0] = ("begin", source.randint(2, 7))
            plain = Plain()
            want = [plain.call(*call) for call in calls]
            self.assertEqual(ask(*calls), want, calls)


if __name__ == "__main__":
    unittest.main()
