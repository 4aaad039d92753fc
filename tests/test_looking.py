"""next, worth, look, told."""

import unittest

from tests.helper import BIGGEST, all_seen, ask, hull, last, welds

TRIANGLE = hull(3, (0, 1, 5), (1, 2, 7), (2, 0, 11))
ALIKE = hull(3, (0, 1, 4), (1, 2, 4), (2, 0, 4))
TWINS = hull(2, (0, 1, 20), (1, 0, 30))
# Two rings that share seam 2, and seam 5 hanging out to part 4; part 5 has none.
TWO_RINGS = hull(6, (0, 1, 10), (1, 2, 60), (0, 2, 30), (2, 3, 40), (3, 0, 20), (3, 4, 1))


class Next(unittest.TestCase):
    def test_most_strain_first(self):
        self.assertEqual(last(*TRIANGLE, ("next",)), [2, 0])
        self.assertEqual(last(*TWO_RINGS, ("next",)), [1, 0])

    def test_strains_alike(self):
        told = ask(*ALIKE, ("next",), ("weld", 0), ("next",), ("weld", 1), ("next",))
        self.assertEqual([told[4], told[6], told[8]], [[0, 0], [1, 0], [2, 1]])

    def test_it_would_be_locked(self):
        self.assertEqual(last(*TRIANGLE, *welds(0, 1), ("next",)), [2, 1])
        self.assertEqual(last(*TWINS, ("weld", 0), ("next",)), [1, 1])
        self.assertEqual(last(*TWO_RINGS, *welds(0, 2), ("next",)), [1, 1])

    def test_leaves_out_what_is_welded(self):
        self.assertEqual(last(*TWO_RINGS, *welds(1, 3), ("next",)), [2, 0])

    def test_all_are_welded(self):
        self.assertEqual(last(*TRIANGLE, *welds(0, 1, 2), ("next",)), [-6])

    def test_no_seams(self):
        self.assertEqual(last(("begin", 0), ("next",)), [-6])
        self.assertEqual(last(("begin", 7), ("next",)), [-6])

    def test_behind_cut_and_strain(self):
        old = TRIANGLE + welds(0, 1, 2)
        told = ask(*old, ("cut", 1), ("next",), ("cut", 0), ("next",), ("strain", 0, 8), ("next",))
        self.assertEqual([told[8], told[10], told[12]], [[1, 1], [1, 0], [0, 0]])

    def test_is_what_weld_then_answers(self):
        for numbers in ((), (0,), (2, 0), (0, 1, 2), (4, 2, 3)):
            told = ask(*TWO_RINGS, *welds(*numbers), ("next",))[-1]
            self.assertEqual(last(*TWO_RINGS, *welds(*numbers), ("weld", told[0]))[0], told[1])


class Worth(unittest.TestCase):
    def test_free_now(self):
        self.assertEqual(last(*TRIANGLE, ("worth", 0)), [2])
        self.assertEqual(last(*TRIANGLE, ("worth", 1)), [0])
        self.assertEqual(last(*TRIANGLE, ("worth", 2)), [0])

    def test_two_rings(self):
        for k, want in ((0, 20), (1, 0), (2, 0), (3, 0), (4, 10), (5, 0)):
            self.assertEqual(last(*TWO_RINGS, ("worth", k)), [want], k)

    def test_locked_now(self):
        for k in range(3):
            others = [other for other in range(3) if other != k]
            self.assertEqual(last(*TRIANGLE, *welds(*others), ("worth", k)), [0])
        self.assertEqual(last(*TWINS, ("weld", 0), ("worth", 1)), [0])

    def test_its_ring_is_closed_by_another_then(self):
        told = ask(*hull(2, (0, 1, 1), (0, 1, 1000)), ("worth", 0), ("worth", 1))
        self.assertEqual(told[3:], [[999], [0]])

    def test_a_twin_in_a_ring(self):
        calls = hull(3, (0, 1, 1), (0, 1, 100), (1, 2, 50), (2, 0, 70))
        self.assertEqual(last(*calls, ("least",)), [51, 0])
        self.assertEqual(ask(*calls, *[("worth", k) for k in range(4)])[5:], [[99], [0], [20], [0]])

    def test_strains_alike(self):
        for k in range(3):
            self.assertEqual(last(*ALIKE, ("worth", k)), [0])
        calls = hull(2, *[(0, 1, 6)] * 5)
        for k in range(5):
            self.assertEqual(last(*calls, ("worth", k)), [0])

    def test_begins_from_what_is_welded(self):
        told = ask(*TWO_RINGS, ("weld", 2), *[("worth", k) for k in (0, 1, 3, 4, 5)])
        self.assertEqual(told[8:], [[50], [0], [0], [20], [0]])

    def test_what_is_locked_already_is_left_out(self):
        told = ask(*TWINS, *welds(0, 1), ("seam", 0, 1, 40), ("worth", 2), ("least",))
        self.assertEqual(told[-2:], [[0], [40, 30]])

    def test_behind_cut_and_strain(self):
        old = TWINS + welds(0, 1) + [("cut", 0), ("cut", 1)]
        told = ask(*old, ("worth", 0), ("strain", 0, 31), ("worth", 0), ("worth", 1))
        self.assertEqual([told[7], told[9], told[10]], [[10], [0], [1]])

    def test_welded(self):
        self.assertEqual(last(*TRIANGLE, ("weld", 0), ("worth", 0)), [-17])
        self.assertEqual(last(*TWINS, *welds(0, 1), ("worth", 1)), [-17])

    def test_no_such_seam(self):
        for k in (3, 9, 10, BIGGEST):
            self.assertEqual(last(*TRIANGLE, *welds(0, 1, 2), ("worth", k)), [-2])
        self.assertEqual(last(("begin", 7), ("worth", 0)), [-2])


class Look(unittest.TestCase):
    def test_one_not_welded(self):
        self.assertEqual(last(*TRIANGLE, ("look", 0)), [5, 0, 1, 0, 0])
        self.assertEqual(last(*TRIANGLE, ("look", 2)), [11, 2, 0, 0, 0])

    def test_one_that_would_be_locked_is_not_yet(self):
        self.assertEqual(last(*TRIANGLE, *welds(0, 1), ("look", 2)), [11, 2, 0, 0, 0])

    def test_free_and_locked(self):
        told = ask(*TRIANGLE, *welds(2, 0, 1), ("look", 0), ("look", 1), ("look", 2))
        self.assertEqual(told[7:], [[5, 0, 1, 1, 0], [7, 1, 2, 1, 1], [11, 2, 0, 1, 0]])

    def test_its_parts_stand_as_they_were_given(self):
        told = ask(*TWINS, ("look", 0), ("look", 1))
        self.assertEqual(told[3:], [[20, 0, 1, 0, 0], [30, 1, 0, 0, 0]])

    def test_behind_cut(self):
        told = ask(*TWINS, *welds(0, 1), ("cut", 0), ("look", 0), ("look", 1), ("weld", 0), ("look", 0), ("look", 1))
        self.assertEqual(told[6:8], [[20, 0, 1, 0, 0], [30, 1, 0, 1, 1]])
        self.assertEqual(told[9:], [[20, 0, 1, 1, 1], [30, 1, 0, 1, 1]])

    def test_locked_and_cut_and_welded_again_free(self):
        told = ask(*TWINS, *welds(0, 1), ("cut", 1), ("look", 1), ("cut", 0), ("weld", 1), ("look", 1))
        self.assertEqual([told[6], told[9]], [[30, 1, 0, 0, 0], [30, 1, 0, 1, 0]])

    def test_behind_strain(self):
        told = ask(*TWINS, ("strain", 0, 1000), ("look", 0), *welds(0, 1), ("strain", 1, 1), ("look", 1), ("look", 0))
        self.assertEqual([told[4], told[8], told[9]], [[1000, 0, 1, 0, 0], [1, 1, 0, 1, 1], [1000, 0, 1, 1, 0]])

    def test_no_such_seam(self):
        for k in (2, 9, 10, BIGGEST):
            self.assertEqual(last(*TWINS, ("look", k)), [-2])
        self.assertEqual(last(("begin", 7), ("look", 0)), [-2])


class Told(unittest.TestCase):
    def test_parts(self):
        for n in range(8):
            self.assertEqual(last(("begin", n), ("told",)), [n, 0, 0])
        self.assertEqual(last(*TWINS, ("part",), ("told",)), [3, 2, 0])

    def test_seams(self):
        self.assertEqual(last(*TWO_RINGS, ("told",)), [6, 6, 0])
        self.assertEqual(last(*hull(2, *[(0, 1, 1)] * 11), ("told",)), [2, 10, 0])

    def test_behind_weld_cut_and_strain(self):
        told = ask(*TWINS, ("weld", 0), ("told",), ("weld", 1), ("told",), ("cut", 0), ("told",))
        self.assertEqual([told[4], told[6], told[8]], [[2, 2, 1], [2, 2, 2], [2, 2, 1]])
        self.assertEqual(last(*TWINS, *welds(0, 1), ("strain", 1, 7), ("told",)), [2, 2, 2])

    def test_refused_calls_do_not_count(self):
        told = ask(*TWINS, *welds(0, 0, 2), ("cut", 1), ("seam", 0, 0, 1), ("begin", 8), ("told",))
        self.assertEqual(told[-1], [2, 2, 1])

    def test_begun_again(self):
        self.assertEqual(last(*TWINS, *welds(0, 1), ("begin", 5), ("told",)), [5, 0, 0])


class Asking(unittest.TestCase):
    def test_changes_nothing(self):
        for old in (TWO_RINGS + welds(2, 1, 0), TRIANGLE + welds(0, 1, 2) + [("cut", 0)], TRIANGLE + welds(0, 1, 2)):
            for call in (
                ("next",), ("told",), ("worth", 0), ("worth", 3), ("worth", BIGGEST),
                ("look", 0), ("look", 2), ("look", BIGGEST),
            ):
                self.assertEqual(all_seen(old + [call]), all_seen(old), call)


if __name__ == "__main__":
    unittest.main()
