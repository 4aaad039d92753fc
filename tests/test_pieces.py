"""pieces, together, holds."""

import unittest

from tests.helper import all_seen, ask, hull, last, welds

TRIANGLE = hull(3, (0, 1, 5), (1, 2, 7), (2, 0, 11))
TWINS = hull(2, (0, 1, 20), (1, 0, 30))
# Two rings that share seam 2, and seam 5 hanging out to part 4; part 5 has none.
TWO_RINGS = hull(6, (0, 1, 10), (1, 2, 60), (0, 2, 30), (2, 3, 40), (3, 0, 20), (3, 4, 1))


class Pieces(unittest.TestCase):
    def test_no_parts(self):
        self.assertEqual(last(("begin", 0), ("pieces",)), [0])

    def test_parts_with_no_seam(self):
        for n in range(8):
            self.assertEqual(last(("begin", n), ("pieces",)), [n])

    def test_by_what_is_welded(self):
        for numbers, want in (((), 6), ((5,), 5), ((5, 1), 4), ((5, 1, 3), 3), ((0, 1, 2), 4)):
            self.assertEqual(last(*TWO_RINGS, *welds(*numbers), ("pieces",)), [want], numbers)

    def test_a_locked_one_joins_no_more(self):
        told = ask(*TRIANGLE, *welds(0, 1), ("pieces",), ("weld", 2), ("pieces",))
        self.assertEqual([told[6], told[8]], [[1], [1]])

    def test_all_in_one(self):
        calls = hull(7, *[(x, x + 1, 1) for x in range(6)])
        self.assertEqual(last(*calls, *welds(5, 1, 3, 0, 4, 2), ("pieces",)), [1])
        self.assertEqual(last(("begin", 1), ("pieces",)), [1])

    def test_behind_cut(self):
        told = ask(*TRIANGLE, *welds(0, 1, 2), ("cut", 0), ("pieces",), ("cut", 1), ("pieces",))
        self.assertEqual([told[8], told[10]], [[1], [2]])

    def test_behind_part(self):
        self.assertEqual(last(*TRIANGLE, ("weld", 0), ("part",), ("pieces",)), [3])


class Together(unittest.TestCase):
    def test_no_parts(self):
        self.assertEqual(last(("begin", 0), ("together",)), [0])

    def test_parts_with_no_seam(self):
        for n in range(8):
            self.assertEqual(last(("begin", n), ("together",)), [n])
        self.assertEqual(last(*TWO_RINGS, ("together",)), [2])

    def test_all_in_one(self):
        self.assertEqual(last(*TRIANGLE, ("together",)), [1])
        self.assertEqual(last(("begin", 1), ("together",)), [1])

    def test_welding_and_cutting_do_not_matter(self):
        told = ask(*TRIANGLE, ("together",), ("weld", 0), ("together",), *welds(1, 2), ("cut", 1), ("together",))
        self.assertEqual([told[4], told[6], told[10]], [[1], [1], [1]])

    def test_behind_part_and_seam(self):
        told = ask(*TWINS, ("part",), ("together",), ("seam", 2, 0, 1), ("together",))
        self.assertEqual([told[4], told[6]], [[2], [1]])


class Holds(unittest.TestCase):
    def test_ring_of_three(self):
        told = ask(*TRIANGLE, ("weld", 2), ("holds",), ("weld", 0), ("holds",), ("weld", 1), ("holds",))
        self.assertEqual([told[5], told[7], told[9]], [[1, 2], [2, 0, 2], [0]])

    def test_two_between_the_same_parts(self):
        told = ask(*TWINS, ("weld", 1), ("holds",), ("weld", 0), ("holds",))
        self.assertEqual([told[4], told[6]], [[1, 1], [0]])

    def test_rising_whatever_the_strain_or_the_order_of_welding(self):
        calls = hull(5, (0, 1, 9), (1, 2, 1000), (2, 3, 1), (3, 4, 500))
        self.assertEqual(last(*calls, *welds(3, 1, 0, 2), ("holds",)), [4, 0, 1, 2, 3])

    def test_between_two_rings(self):
        calls = hull(6, (0, 1, 1), (1, 2, 1), (2, 3, 1), (2, 0, 1), (3, 4, 1), (4, 5, 1), (5, 3, 1))
        self.assertEqual(last(*calls, *welds(*range(7)), ("holds",)), [1, 2])

    def test_hanging_out(self):
        self.assertEqual(last(*TWO_RINGS, *welds(*range(6)), ("holds",)), [1, 5])

    def test_a_seam_whose_ring_was_cut(self):
        told = ask(*TRIANGLE, *welds(0, 1, 2), ("cut", 0), ("holds",), ("look", 2), ("cut", 2), ("holds",))
        self.assertEqual(told[8:], [[2, 1, 2], [11, 2, 0, 1, 1], [1], [1, 1]])

    def test_a_ring_closed_again(self):
        told = ask(*TRIANGLE, *welds(0, 1, 2), ("cut", 0), ("weld", 0), ("holds",))
        self.assertEqual(told[8:], [[1, 16], [0]])

    def test_seams_that_are_not_welded_hold_nothing(self):
        self.assertEqual(last(*TRIANGLE, ("holds",)), [0])
        self.assertEqual(last(*TRIANGLE, ("weld", 1), ("holds",)), [1, 1])

    def test_no_seams(self):
        self.assertEqual(last(("begin", 0), ("holds",)), [0])
        self.assertEqual(last(("begin", 7), ("holds",)), [0])


class Telling(unittest.TestCase):
    def test_changes_nothing(self):
        for old in (TWO_RINGS + welds(2, 1, 0, 5), TRIANGLE + welds(0, 1, 2) + [("cut", 0)], [("begin", 0)]):
            for name in ("pieces", "together", "holds"):
                self.assertEqual(all_seen(old + [(name,)]), all_seen(old), name)


if __name__ == "__main__":
    unittest.main()
