"""What holds over small hulls: rings and ways, what holds alone, what the free ones join, what a seam is worth."""

import itertools
import random
import unittest

from tests.helper import ask, first_way, hang_together, hull, last, small_hulls, welds


def welded_hulls():
    """Parts, seams, and which are welded: every few of few parts, then some of many parts."""
    for parts, most in ((2, 3), (3, 3), (4, 3)):
        pairs = list(itertools.combinations(range(parts), 2))
        for count in range(most + 1):
            for ends in itertools.product(pairs, repeat=count):
                seams = [(y, x, 1) if k % 2 else (x, y, 1) for k, (x, y) in enumerate(ends)]
                for size in range(count + 1):
                    for welded in itertools.combinations(range(count), size):
                        yield parts, seams, welded
    source = random.Random(5)
    for turn in range(150):
        parts = source.randint(4, 7)
        seams = [(*source.sample(range(parts), 2), source.choice((1, 4, 4, 90))) for k in range(source.randint(5, 10))]
        yield parts, seams, source.sample(range(len(seams)), source.randint(3, len(seams)))


def states():
    """Calls that leave some hull, some with seams cut, and the seams that aren't welded then."""
    for parts, seams, welded in small_hulls():
        rest = [k for k in range(len(seams)) if k not in welded]
        yield hull(parts, *seams) + welds(*welded), rest
        if welded:
            yield hull(parts, *seams) + welds(*welded) + [("cut", welded[0])], sorted(rest + [welded[0]])


class Ways(unittest.TestCase):
    def test_against_every_way(self):
        for parts, seams, welded in welded_hulls():
            now = {k: seams[k] for k in welded}
            old = hull(parts, *seams) + welds(*welded)
            pairs = list(itertools.product(range(parts), repeat=2))
            told = ask(*old, *[("way", x, y) for x, y in pairs])[len(old):]
            for (x, y), answer in zip(pairs, told):
                way = first_way(now, x, y)
                want = [-33] if way is None else [len(way)] + way
                self.assertEqual(answer, want, (seams, welded, x, y))

    def test_there_is_one_just_if_they_hang_together(self):
        for parts, seams, welded in welded_hulls():
            old = hull(parts, *seams) + welds(*welded)
            for x in range(parts):
                told = ask(*old, *[("hang", x, y) for y in range(parts)], *[("way", x, y) for y in range(parts)])
                told = told[len(old):]
                for y in range(parts):
                    self.assertEqual(told[y], [int(hang_together([seams[k] for k in welded], x, y))])
                    self.assertEqual(told[y] == [1], told[parts + y] != [-33])


class Rings(unittest.TestCase):
    def test_a_seam_is_locked_just_if_it_closes_one(self):
        for parts, seams, welded in welded_hulls():
            old = hull(parts, *seams) + welds(*welded)
            for k, (x, y, s) in enumerate(seams):
                if k in welded:
                    self.assertEqual(last(*old, ("ring", k)), [-17])
                    continue
                ring = last(*old, ("ring", k))
                self.assertEqual(ring, last(*old, ("way", x, y)))
                self.assertEqual(last(*old, ("weld", k))[0], int(ring != [-33]), (seams, welded, k))


class HoldsAlone(unittest.TestCase):
    def test_was_not_locked_if_nothing_was_cut(self):
        for parts, seams, welded in welded_hulls():
            old = hull(parts, *seams) + welds(*welded)
            told = last(*old, ("holds",))
            self.assertEqual(told[1:], sorted(told[1:]))
            self.assertEqual(told[0], len(told) - 1)
            for k in told[1:]:
                self.assertEqual(last(*old, ("look", k))[3:], [1, 0])

    def test_just_those_whose_cut_makes_one_piece_more(self):
        for parts, seams, welded in welded_hulls():
            old = hull(parts, *seams) + welds(*welded)
            now = last(*old, ("pieces",))[0]
            more = [k for k in sorted(welded) if last(*old, ("cut", k), ("pieces",))[0] > now]
            self.assertEqual(last(*old, ("holds",)), [len(more)] + more)


class Orders(unittest.TestCase):
    def test_as_many_are_locked_as_pieces_tell(self):
        for old, rest in states():
            now, end, many = ask(*old, ("pieces",), ("together",), ("many",))[len(old):]
            want = len(rest) - (now[0] - end[0])
            self.assertEqual(many, [want])
            for order in itertools.permutations(rest[:4]):
                told = ask(*old, *welds(*order, *rest[4:]), ("pieces",))[len(old):]
                self.assertEqual(sum(answer[0] for answer in told[:-1]), want)
                self.assertEqual(told[-1], end)

    def test_the_free_ones_join_all_that_all_join(self):
        for parts, seams, welded in small_hulls():
            pairs = list(itertools.combinations(range(parts), 2))
            asked = [("pieces",)] + [("hang", x, y) for x, y in pairs]
            whole = hull(parts, *seams)
            want = ask(*whole, *welds(*range(len(seams))), *asked)[-len(asked):]
            self.assertEqual(want[0], last(*whole, ("together",)))
            for order in itertools.permutations(range(min(4, len(seams)))):
                order = list(order) + list(range(len(order), len(seams)))
                told = ask(*whole, *welds(*order))[len(whole):]
                free = [k for k, answer in zip(order, told) if answer[0] == 0]
                self.assertEqual(ask(*whole, *welds(*free), *asked)[-len(asked):], want)


class NextAndWorth(unittest.TestCase):
    def test_next_is_the_first_of_the_order_told(self):
        for old, rest in states():
            order, first = ask(*old, ("order",), ("next",))[len(old):]
            if not rest:
                self.assertEqual(first, [-6])
                continue
            self.assertEqual(first, [order[1], last(*old, ("weld", order[1]))[0]])

    def test_worth_is_what_the_welds_tell_and_never_below_nought(self):
        for old, rest in states():
            order = last(*old, ("order",))[1:]
            by_order = last(*old, *welds(*order), ("sofar",))[0]
            for k in rest:
                then = last(*old, ("weld", k), ("order",))[1:]
                by_k = last(*old, *welds(k, *then), ("sofar",))[0]
                worth = last(*old, ("worth", k))
                self.assertEqual(worth, [by_k - by_order], (old, k))
                self.assertGreaterEqual(worth[0], 0)


if __name__ == "__main__":
    unittest.main()
