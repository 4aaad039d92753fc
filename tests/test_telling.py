"""order, least, sofar, locked, many."""

import unittest

from tests.helper import all_seen, ask, hull, last, welds

TRIANGLE = hull(3, (0, 1, 5), (1, 2, 7), (2, 0, 11))
ALIKE = hull(3, (0, 1, 4), (1, 2, 4), (2, 0, 4))
# Two rings that share seam 2, and seam 5 hanging out to part 4; part 5 has none.
TWO_RINGS = hull(6, (0, 1, 10), (1, 2, 60), (0, 2, 30), (2, 3, 40), (3, 0, 20), (3, 4, 1))


class Order(unittest.TestCase):
    def test_most_strain_first(self):
        self.assertEqual(last(*TRIANGLE, ("order",)), [3, 2, 1, 0])
        self.assertEqual(last(*TWO_RINGS, ("order",)), [6, 1, 3, 2, 4, 0, 5])

    def test_alike_by_number(self):
        self.assertEqual(last(*ALIKE, ("order",)), [3, 0, 1, 2])
        calls = hull(2, (0, 1, 3), (0, 1, 9), (0, 1, 3), (0, 1, 9), (0, 1, 1000))
        self.assertEqual(last(*calls, ("order",)), [5, 4, 1, 3, 0, 2])

    def test_leaves_out_what_is_welded(self):
        self.assertEqual(last(*TWO_RINGS, *welds(3, 0), ("order",)), [4, 1, 2, 4, 5])

    def test_has_a_cut_one_again(self):
        self.assertEqual(last(*TWO_RINGS, *welds(3, 0), ("cut", 3), ("order",)), [5, 1, 3, 2, 4, 5])

    def test_no_seams(self):
        self.assertEqual(last(("begin", 7), ("order",)), [0])
        self.assertEqual(last(("begin", 0), ("order",)), [0])

    def test_all_welded(self):
        self.assertEqual(last(*TRIANGLE, *welds(0, 1, 2), ("order",)), [0])

    def test_ten(self):
        calls = hull(7, *[(0, 1 + k % 6, 1 + k) for k in range(10)])
        self.assertEqual(last(*calls, ("order",)), [10, 9, 8, 7, 6, 5, 4, 3, 2, 1, 0])


class Least(unittest.TestCase):
    def test_ring_of_three(self):
        self.assertEqual(last(*TRIANGLE, ("least",)), [5, 0])

    def test_strains_alike(self):
        self.assertEqual(last(*ALIKE, ("least",)), [4, 0])

    def test_two_rings(self):
        self.assertEqual(last(*TWO_RINGS, ("least",)), [30, 0])

    def test_begins_from_what_is_welded(self):
        self.assertEqual(last(*TRIANGLE, *welds(0, 1), ("least",)), [11, 0])
        self.assertEqual(last(*TWO_RINGS, *welds(0, 2), ("least",)), [80, 0])

    def test_leaves_out_what_is_locked_already(self):
        self.assertEqual(last(*TWO_RINGS, *welds(0, 2, 1), ("least",)), [20, 60])

    def test_all_welded(self):
        self.assertEqual(last(*TRIANGLE, *welds(0, 1, 2), ("least",)), [0, 11])

    def test_no_seams(self):
        self.assertEqual(last(("begin", 3), ("least",)), [0, 0])

    def test_a_tree_strains_nothing(self):
        self.assertEqual(last(*hull(4, (0, 1, 9), (1, 2, 9), (1, 3, 9)), ("least",)), [0, 0])


class SoFar(unittest.TestCase):
    def test_tells_locked_ones_alone(self):
        told = ask(*TWO_RINGS, ("sofar",), ("weld", 0), ("sofar",), ("weld", 1), ("weld", 2), ("sofar",))
        self.assertEqual([told[7], told[9], told[12]], [[0], [0], [30]])

    def test_ring_cut_later(self):
        told = ask(*TRIANGLE, *welds(0, 1, 2), ("cut", 1), ("sofar",), ("least",), ("locked",), ("many",))
        self.assertEqual(told[8:], [[11], [7, 11], [1, 1], [1]])

    def test_no_seams(self):
        self.assertEqual(last(("begin", 0), ("sofar",)), [0])


class Locked(unittest.TestCase):
    def test_ring_of_three(self):
        self.assertEqual(last(*TRIANGLE, ("locked",)), [1, 0])

    def test_strains_alike(self):
        self.assertEqual(last(*ALIKE, ("locked",)), [1, 2])

    def test_stand_in_the_order_told(self):
        self.assertEqual(last(*TWO_RINGS, ("locked",)), [2, 4, 0])
        calls = hull(2, (0, 1, 3), (0, 1, 9), (0, 1, 3), (0, 1, 9), (0, 1, 8))
        self.assertEqual(last(*calls, ("locked",)), [4, 3, 4, 0, 2])

    def test_leaves_out_what_is_welded(self):
        self.assertEqual(last(*TWO_RINGS, *welds(0, 2, 1), ("locked",)), [1, 4])

    def test_begins_from_what_is_welded(self):
        self.assertEqual(last(*TWO_RINGS, *welds(0, 2), ("locked",)), [2, 1, 4])

    def test_none(self):
        self.assertEqual(last(("begin", 3), ("locked",)), [0])
        self.assertEqual(last(*TRIANGLE, *welds(0, 1, 2), ("locked",)), [0])
        self.assertEqual(last(*hull(3, (0, 1, 9), (1, 2, 9)), ("locked",)), [0])


class Many(unittest.TestCase):
    def test_rings(self):
        self.assertEqual(last(*TRIANGLE, ("many",)), [1])
        self.assertEqual(last(*TWO_RINGS, ("many",)), [2])
        self.assertEqual(last(*hull(2, *[(0, 1, 1)] * 10), ("many",)), [9])

    def test_leaves_out_what_is_welded(self):
        self.assertEqual(last(*TWO_RINGS, *welds(0, 2, 1), ("many",)), [1])
        self.assertEqual(last(*TRIANGLE, *welds(0, 1, 2), ("many",)), [0])

    def test_none(self):
        self.assertEqual(last(("begin", 3), ("many",)), [0])
        self.assertEqual(last(*hull(3, (0, 1, 9), (1, 2, 9)), ("many",)), [0])


class Telling(unittest.TestCase):
    def test_changes_nothing(self):
        old = TWO_RINGS + welds(2, 1, 0)
        for name in ("order", "least", "sofar", "locked", "many"):
            self.assertEqual(all_seen(old + [(name,)]), all_seen(old), name)

    def test_a_part_with_no_seam_changes_none(self):
        tail = [("order",), ("least",), ("sofar",), ("locked",), ("many",)]
        seams = [(0, 1, 5), (1, 2, 7), (2, 0, 11), (0, 1, 6)]
        want = ask(*hull(3, *seams), ("weld", 0), *tail)[-5:]
        self.assertEqual(ask(*hull(7, *seams), ("weld", 0), *tail)[-5:], want)


if __name__ == "__main__":
    unittest.main()
