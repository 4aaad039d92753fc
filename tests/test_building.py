"""begin, part, seam."""

import unittest

from tests.helper import BIGGEST, all_seen, ask, hull, last, welds


class Begin(unittest.TestCase):
    def test_up_to_seven_parts(self):
        for n in range(8):
            self.assertEqual(ask(("begin", n)), [[0]])

    def test_above_seven_is_refused(self):
        for n in (8, 9, 1000, BIGGEST):
            self.assertEqual(ask(("begin", n)), [[-22]])

    def test_makes_so_many_parts(self):
        for n in range(7):
            self.assertEqual(last(("begin", n), ("part",)), [n])
        self.assertEqual(last(("begin", 7), ("part",)), [-28])

    def test_of_none_has_no_part(self):
        self.assertEqual(last(("begin", 0), ("seam", 0, 0, 1)), [-2])

    def test_has_no_seams(self):
        told = ask(("begin", 3), ("order",), ("least",), ("sofar",), ("locked",), ("many",), ("weld", 0))
        self.assertEqual(told[1:], [[0], [0, 0], [0], [0], [0], [-2]])

    def test_again_forgets_all(self):
        old = hull(5, (0, 1, 3), (0, 1, 4), (2, 3, 9)) + welds(0, 1)
        for n in range(8):
            self.assertEqual(all_seen(old + [("begin", n)]), all_seen([("begin", n)]))

    def test_again_has_room_for_ten_seams(self):
        calls = hull(2, *[(0, 1, 1)] * 10) + hull(2, *[(0, 1, 1)] * 10)
        self.assertEqual(ask(*calls)[11:], [[0]] + [[k] for k in range(10)])

    def test_refused_again_changes_nothing(self):
        old = hull(3, (0, 1, 3), (0, 1, 4), (1, 2, 9)) + welds(0, 1)
        for n in (8, BIGGEST):
            self.assertEqual(last(*old, ("begin", n)), [-22])
            self.assertEqual(all_seen(old + [("begin", n)]), all_seen(old))


class BeforeBegin(unittest.TestCase):
    others = (
        ("part",), ("seam", 0, 1, 1), ("weld", 0), ("cut", 0), ("strain", 0, 1),
        ("order",), ("least",), ("sofar",), ("locked",), ("many",),
        ("hang", 0, 0), ("way", 0, 0), ("ring", 0), ("pieces",), ("together",),
        ("holds",), ("next",), ("worth", 0), ("look", 0), ("told",),
    )

    def test_each_by_itself(self):
        for call in self.others:
            self.assertEqual(ask(call), [[-11]], call)

    def test_one_behind_another(self):
        self.assertEqual(ask(*self.others), [[-11]] * 20)

    def test_behind_a_refused_begin(self):
        for call in self.others:
            self.assertEqual(ask(("begin", 8), call), [[-22], [-11]], call)

    def test_comes_ahead_of_other_refusals(self):
        for call in (
            ("seam", BIGGEST, BIGGEST, 0), ("weld", BIGGEST), ("cut", BIGGEST), ("strain", BIGGEST, 0),
            ("hang", BIGGEST, 0), ("way", 0, BIGGEST), ("ring", BIGGEST), ("worth", BIGGEST), ("look", BIGGEST),
        ):
            self.assertEqual(ask(call), [[-11]], call)

    def test_changes_nothing(self):
        self.assertEqual(all_seen(list(self.others) + [("begin", 2)]), all_seen([("begin", 2)]))

    def test_is_over_behind_a_begin(self):
        told = ask(("part",), ("begin", 8), ("part",), ("begin", 0), ("part",), ("begin", 9), ("part",))
        self.assertEqual(told, [[-11], [-22], [-11], [0], [0], [-22], [1]])


class Part(unittest.TestCase):
    def test_seven_and_one_more(self):
        told = ask(("begin", 0), *[("part",)] * 9)
        self.assertEqual(told, [[0]] + [[k] for k in range(7)] + [[-28], [-28]])

    def test_can_be_joined(self):
        told = ask(("begin", 1), ("seam", 0, 1, 5), ("part",), ("seam", 0, 1, 5))
        self.assertEqual(told, [[0], [-2], [1], [0]])

    def test_hangs_together_with_none_yet(self):
        old = hull(2, (0, 1, 5)) + welds(0)
        told = ask(*old, ("part",), ("seam", 1, 2, 7), ("weld", 1))
        self.assertEqual(told[-3:], [[2], [1], [0, 0]])

    def test_leaves_what_was(self):
        old = hull(3, (0, 1, 3), (0, 1, 4), (1, 2, 9)) + welds(0, 1)
        tail = [("order",), ("least",), ("sofar",), ("locked",), ("many",)]
        self.assertEqual(ask(*old, ("part",), *tail)[-5:], ask(*old, *tail)[-5:])

    def test_refused_changes_nothing(self):
        old = hull(7, (0, 1, 3), (0, 6, 4), (1, 6, 9)) + welds(0, 1)
        self.assertEqual(all_seen(old + [("part",)]), all_seen(old))


class NewSeam(unittest.TestCase):
    def test_is_numbered_from_nought(self):
        told = ask(*hull(3, (0, 1, 5), (1, 2, 5), (2, 0, 5), (0, 1, 5)))
        self.assertEqual(told, [[0], [0], [1], [2], [3]])

    def test_ten_and_one_more(self):
        told = ask(*hull(2, *[(0, 1, 1)] * 12))
        self.assertEqual(told, [[0]] + [[k] for k in range(10)] + [[-28], [-28]])

    def test_welded_ones_count_too(self):
        self.assertEqual(last(*hull(2, *[(0, 1, 1)] * 10), *welds(0, 1, 2), ("seam", 0, 1, 1)), [-28])

    def test_between_any_two_parts(self):
        for x in range(7):
            for y in range(7):
                want = [-22] if x == y else [0]
                self.assertEqual(last(("begin", 7), ("seam", x, y, 1)), want)

    def test_no_such_part(self):
        for n in range(8):
            for far in (n, n + 1, 7, BIGGEST):
                self.assertEqual(last(("begin", n), ("seam", 0, far, 1)), [-2])
                self.assertEqual(last(("begin", n), ("seam", far, 0, 1)), [-2])
                self.assertEqual(last(("begin", n), ("seam", far, far + 1, 1)), [-2])

    def test_with_itself_is_refused(self):
        for x in range(3):
            self.assertEqual(last(("begin", 3), ("seam", x, x, 1)), [-22])

    def test_how_much_it_strains(self):
        for s, want in ((0, -22), (1, 0), (2, 0), (999, 0), (1000, 0), (1001, -22), (BIGGEST, -22)):
            self.assertEqual(last(("begin", 2), ("seam", 0, 1, s)), [want], s)

    def test_no_such_part_comes_first(self):
        full = hull(2, *[(0, 1, 1)] * 10)
        for old in ([("begin", 2)], full):
            self.assertEqual(last(*old, ("seam", 2, 2, 1)), [-2])
            self.assertEqual(last(*old, ("seam", 0, 2, 0)), [-2])
            self.assertEqual(last(*old, ("seam", 2, 0, 1001)), [-2])
        self.assertEqual(last(*full, ("seam", 0, 2, 1)), [-2])

    def test_out_of_bounds_comes_ahead_of_full(self):
        full = hull(2, *[(0, 1, 1)] * 10)
        self.assertEqual(last(*full, ("seam", 1, 1, 1)), [-22])
        self.assertEqual(last(*full, ("seam", 0, 1, 0)), [-22])
        self.assertEqual(last(*full, ("seam", 0, 1, 1001)), [-22])

    def test_is_not_welded(self):
        told = ask(*hull(2, (0, 1, 5)), ("cut", 0), ("order",), ("weld", 0))
        self.assertEqual(told[2:], [[-6], [1, 0], [0, 0]])

    def test_refused_changes_nothing(self):
        few = hull(3, (0, 1, 3), (0, 1, 4), (1, 2, 9)) + welds(0, 1)
        for given in ((0, 3, 1), (3, 0, 1), (1, 1, 1), (0, 1, 0), (0, 1, 1001), (BIGGEST, BIGGEST, BIGGEST)):
            self.assertEqual(all_seen(few + [("seam", *given)]), all_seen(few), given)
        full = hull(3, *[(0, 1, 1), (1, 2, 2)] * 5) + welds(3, 4)
        self.assertEqual(all_seen(full + [("seam", 0, 2, 1)]), all_seen(full))


if __name__ == "__main__":
    unittest.main()
