"""weld, cut, strain."""

import unittest

from tests.helper import BIGGEST, all_seen, ask, hull, last, welds

TRIANGLE = hull(3, (0, 1, 5), (1, 2, 7), (2, 0, 11))
TWINS = hull(2, (0, 1, 20), (1, 0, 30))


class Weld(unittest.TestCase):
    def test_ring_of_three(self):
        self.assertEqual(ask(*TRIANGLE, *welds(0, 1, 2))[4:], [[0, 0], [0, 0], [1, 11]])
        self.assertEqual(ask(*TRIANGLE, *welds(2, 1, 0))[4:], [[0, 0], [0, 0], [1, 5]])
        self.assertEqual(ask(*TRIANGLE, *welds(2, 0, 1))[4:], [[0, 0], [0, 0], [1, 7]])

    def test_two_between_the_same_parts(self):
        self.assertEqual(ask(*TWINS, *welds(0, 1))[3:], [[0, 0], [1, 30]])
        self.assertEqual(ask(*TWINS, *welds(1, 0))[3:], [[0, 0], [1, 20]])

    def test_tells_all_locked_ones_together(self):
        calls = hull(2, (0, 1, 1), (0, 1, 10), (1, 0, 100), (0, 1, 1000))
        self.assertEqual(ask(*calls, *welds(3, 1, 0, 2))[5:], [[0, 0], [1, 10], [1, 11], [1, 111]])

    def test_a_free_one_tells_them_too(self):
        calls = hull(4, (0, 1, 4), (0, 1, 6), (2, 3, 8))
        self.assertEqual(ask(*calls, *welds(0, 1, 2))[4:], [[0, 0], [1, 6], [0, 6]])

    def test_pieces_that_are_joined_later(self):
        calls = hull(6, (0, 1, 1), (2, 3, 1), (4, 5, 1), (3, 4, 1), (1, 2, 1), (5, 0, 9))
        self.assertEqual(ask(*calls, *welds(0, 1, 2, 3, 4, 5))[7:], [[0, 0]] * 5 + [[1, 9]])

    def test_seams_that_are_not_welded_join_nothing(self):
        self.assertEqual(last(*TRIANGLE, *welds(0, 2)), [0, 0])
        self.assertEqual(last(*hull(2, *[(0, 1, 1)] * 10), ("weld", 9)), [0, 0])

    def test_ring_of_seven(self):
        calls = hull(7, *[(x, (x + 1) % 7, 10 + x) for x in range(7)])
        for first in range(7):
            numbers = [(first + k) % 7 for k in range(7)]
            self.assertEqual(ask(*calls, *welds(*numbers))[8:], [[0, 0]] * 6 + [[1, 10 + numbers[-1]]])

    def test_ten_that_strain_most(self):
        calls = hull(2, *[(0, 1, 1000)] * 10)
        self.assertEqual(last(*calls, *welds(*range(10))), [1, 9000])

    def test_no_such_seam(self):
        for k in (3, 4, 10, BIGGEST):
            self.assertEqual(last(*TRIANGLE, ("weld", k)), [-2])
        self.assertEqual(last(("begin", 7), ("weld", 0)), [-2])

    def test_welded_already(self):
        self.assertEqual(ask(*TWINS, *welds(0, 0, 1, 1, 0))[3:], [[0, 0], [-17], [1, 30], [-17], [-17]])

    def test_refused_changes_nothing(self):
        old = TRIANGLE + [("seam", 0, 1, 40)] + welds(0, 3)
        for k in (0, 3, 4, BIGGEST):
            self.assertEqual(all_seen(old + [("weld", k)]), all_seen(old), k)


class Cut(unittest.TestCase):
    def test_a_free_one(self):
        self.assertEqual(ask(*TWINS, ("weld", 0), ("cut", 0), ("cut", 0))[4:], [[0], [-6]])

    def test_a_locked_one(self):
        told = ask(*TWINS, *welds(0, 1), ("cut", 1), ("sofar",), ("cut", 1))
        self.assertEqual(told[5:], [[1], [0], [-6]])

    def test_is_not_welded_any_more(self):
        told = ask(*TRIANGLE, *welds(0, 1, 2), ("cut", 1), ("order",), ("locked",))
        self.assertEqual(told[7:], [[0], [1, 1], [1, 1]])

    def test_joins_nothing_any_more(self):
        told = ask(*TRIANGLE, *welds(0, 1), ("cut", 0), ("weld", 2))
        self.assertEqual(told[6:], [[0], [0, 0]])

    def test_others_stay_locked(self):
        told = ask(*TRIANGLE, *welds(0, 1, 2), ("cut", 0), ("sofar",), ("cut", 1), ("sofar",), ("cut", 2), ("sofar",))
        self.assertEqual(told[7:], [[0], [11], [0], [11], [1], [0]])

    def test_others_stay_free(self):
        told = ask(*TWINS, *welds(0, 1), ("cut", 0), ("weld", 0), ("sofar",), ("cut", 1), ("sofar",))
        self.assertEqual(told[5:], [[0], [1, 50], [50], [1], [20]])

    def test_welded_again_is_judged_anew(self):
        told = ask(*TWINS, *welds(0, 1), ("cut", 1), ("cut", 0), ("weld", 1), ("weld", 0))
        self.assertEqual(told[5:], [[1], [0], [0, 0], [1, 20]])

    def test_locked_and_welded_again_free(self):
        told = ask(*TRIANGLE, *welds(0, 1, 2), ("cut", 0), ("cut", 2), ("weld", 2), ("cut", 2))
        self.assertEqual(told[7:], [[0], [1], [0, 0], [0]])

    def test_no_such_seam(self):
        for k in (3, 10, BIGGEST):
            self.assertEqual(last(*TRIANGLE, *welds(0, 1, 2), ("cut", k)), [-2])

    def test_not_welded(self):
        self.assertEqual(last(*TRIANGLE, *welds(0, 1), ("cut", 2)), [-6])

    def test_refused_changes_nothing(self):
        old = TRIANGLE + [("seam", 0, 1, 40)] + welds(0, 3)
        for k in (1, 2, 4, BIGGEST):
            self.assertEqual(all_seen(old + [("cut", k)]), all_seen(old), k)


class Strain(unittest.TestCase):
    def test_tells_what_it_was(self):
        told = ask(*TWINS, ("strain", 0, 1), ("strain", 0, 1000), ("strain", 0, 1000), ("strain", 1, 2))
        self.assertEqual(told[3:], [[20], [1], [1000], [30]])

    def test_of_a_locked_one_counts(self):
        told = ask(*TWINS, *welds(0, 1), ("strain", 1, 900), ("sofar",), ("least",), ("cut", 1), ("weld", 1))
        self.assertEqual(told[5:], [[30], [900], [0, 900], [1], [1, 900]])

    def test_of_a_free_one_does_not_count(self):
        told = ask(*TWINS, *welds(0, 1), ("strain", 0, 900), ("sofar",))
        self.assertEqual(told[5:], [[20], [30]])

    def test_of_one_not_welded(self):
        told = ask(*TWINS, ("order",), ("strain", 0, 31), ("order",), ("least",), ("weld", 1), ("weld", 0))
        self.assertEqual(told[3:], [[2, 1, 0], [20], [2, 0, 1], [30, 0], [0, 0], [1, 31]])

    def test_edges(self):
        for s, want in ((0, -22), (1, 20), (1000, 20), (1001, -22), (BIGGEST, -22)):
            self.assertEqual(last(*TWINS, ("strain", 0, s)), [want], s)

    def test_no_such_seam(self):
        for k in (2, 10, BIGGEST):
            self.assertEqual(last(*TWINS, ("strain", k, 5)), [-2])

    def test_no_such_seam_comes_first(self):
        for s in (0, 1001, BIGGEST):
            self.assertEqual(last(*TWINS, ("strain", 2, s)), [-2])

    def test_refused_changes_nothing(self):
        old = TRIANGLE + [("seam", 0, 1, 40)] + welds(0, 3)
        for given in ((0, 0), (3, 1001), (2, 0), (4, 7), (BIGGEST, BIGGEST)):
            self.assertEqual(all_seen(old + [("strain", *given)]), all_seen(old), given)


if __name__ == "__main__":
    unittest.main()
