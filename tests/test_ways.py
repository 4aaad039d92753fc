"""hang, way, ring."""

import unittest

from tests.helper import BIGGEST, all_seen, ask, hull, last, welds

TRIANGLE = hull(3, (0, 1, 5), (1, 2, 7), (2, 0, 11))
# Parts 0 and 3 are joined by 0 then 3, and by 1 then 2: two ways with as many seams.
DIAMOND = hull(4, (0, 1, 1), (0, 2, 1), (2, 3, 1), (1, 3, 1))
# From 0 to 3 there are three seams with low numbers, or one with a high number.
SHORT_CUT = hull(4, (0, 1, 1), (1, 2, 1), (2, 3, 1), (0, 3, 1))
# Parts 0 to 2 in a row, then a row of 3 and 4; 5 has no seam. Seams 3 and 4 aren't welded.
SOME_WELDED = hull(6, (1, 0, 5), (1, 2, 7), (4, 3, 9), (0, 2, 3), (2, 3, 4)) + welds(0, 1, 2)


class Hang(unittest.TestCase):
    def test_by_one_seam_and_by_several(self):
        for x, y, want in ((0, 1, 1), (1, 0, 1), (0, 2, 1), (2, 0, 1), (3, 4, 1), (2, 3, 0), (4, 0, 0), (5, 0, 0)):
            self.assertEqual(last(*SOME_WELDED, ("hang", x, y)), [want], (x, y))

    def test_each_part_with_itself(self):
        for x in range(6):
            self.assertEqual(last(*SOME_WELDED, ("hang", x, x)), [1])
        self.assertEqual(last(("begin", 1), ("hang", 0, 0)), [1])

    def test_seams_that_are_not_welded_join_nothing(self):
        self.assertEqual(last(*TRIANGLE, ("hang", 0, 1)), [0])

    def test_behind_weld_and_cut(self):
        told = ask(*TRIANGLE, ("hang", 0, 2), *welds(0, 1), ("hang", 0, 2), ("cut", 0), ("hang", 0, 2))
        self.assertEqual([told[4], told[7], told[9]], [[0], [1], [0]])

    def test_no_such_part(self):
        for far in (6, 7, BIGGEST):
            for pair in ((0, far), (far, 0), (far, far)):
                self.assertEqual(last(*SOME_WELDED, ("hang", *pair)), [-2])
        self.assertEqual(last(("begin", 0), ("hang", 0, 0)), [-2])

    def test_a_new_part_is_one(self):
        self.assertEqual(last(*SOME_WELDED, ("part",), ("hang", 6, 6)), [1])
        self.assertEqual(last(*SOME_WELDED, ("part",), ("hang", 6, 0)), [0])


class Way(unittest.TestCase):
    def test_the_same_part(self):
        for x in range(6):
            self.assertEqual(last(*SOME_WELDED, ("way", x, x)), [0])
        self.assertEqual(last(*TRIANGLE, *welds(0, 1, 2), ("way", 1, 1)), [0])

    def test_one_behind_another(self):
        self.assertEqual(last(*SOME_WELDED, ("way", 0, 2)), [2, 0, 1])
        self.assertEqual(last(*SOME_WELDED, ("way", 2, 0)), [2, 1, 0])

    def test_from_a_seams_second_part_to_its_first(self):
        self.assertEqual(last(*SOME_WELDED, ("way", 0, 1)), [1, 0])
        self.assertEqual(last(*SOME_WELDED, ("way", 3, 4)), [1, 2])
        self.assertEqual(last(*SOME_WELDED, ("way", 4, 3)), [1, 2])

    def test_two_seams_between_the_same_parts(self):
        calls = hull(3, (0, 1, 5), (1, 0, 1), (2, 1, 3), (1, 2, 9))
        self.assertEqual(last(*calls, *welds(1, 0, 3, 2), ("way", 0, 2)), [2, 0, 2])
        self.assertEqual(last(*calls, *welds(1, 0, 3, 2), ("way", 2, 0)), [2, 2, 0])
        self.assertEqual(last(*calls, *welds(1, 3), ("way", 0, 2)), [2, 1, 3])

    def test_the_first_place_that_differs_decides(self):
        self.assertEqual(last(*DIAMOND, *welds(0, 1, 2, 3), ("way", 0, 3)), [2, 0, 3])
        self.assertEqual(last(*DIAMOND, *welds(3, 2, 1, 0), ("way", 3, 0)), [2, 2, 1])
        self.assertEqual(last(*DIAMOND, *welds(0, 1, 2, 3), ("way", 1, 2)), [2, 0, 1])

    def test_a_later_place_that_differs_decides(self):
        # Out by seam 4 either way, then by 3 and 0 or by 1 and 2.
        calls = hull(5, (2, 4, 1), (1, 3, 1), (3, 4, 1), (1, 2, 1), (0, 1, 1)) + welds(0, 1, 2, 3, 4)
        self.assertEqual(last(*calls, ("way", 0, 4)), [3, 4, 1, 2])
        self.assertEqual(last(*calls, ("way", 4, 0)), [3, 0, 3, 4])

    def test_a_shorter_one_by_higher_numbers(self):
        self.assertEqual(last(*SHORT_CUT, *welds(0, 1, 2, 3), ("way", 0, 3)), [1, 3])
        self.assertEqual(last(*SHORT_CUT, *welds(0, 1, 2, 3), ("way", 3, 0)), [1, 3])
        self.assertEqual(last(*SHORT_CUT, *welds(0, 1, 2), ("way", 0, 3)), [3, 0, 1, 2])

    def test_strain_and_the_order_of_welding_do_not_matter(self):
        calls = hull(4, (0, 1, 1000), (0, 2, 1), (2, 3, 1), (1, 3, 1000))
        for numbers in ((0, 1, 2, 3), (3, 2, 1, 0), (1, 2, 0, 3)):
            self.assertEqual(last(*calls, *welds(*numbers), ("way", 0, 3)), [2, 0, 3])

    def test_locked_seams_count_too(self):
        told = ask(*TRIANGLE, *welds(0, 1, 2), ("look", 2), ("way", 0, 2))
        self.assertEqual(told[7:], [[11, 2, 0, 1, 1], [1, 2]])

    def test_six_seams(self):
        calls = hull(7, *[(x, x + 1, 1) for x in range(6)]) + welds(*range(6))
        self.assertEqual(last(*calls, ("way", 0, 6)), [6, 0, 1, 2, 3, 4, 5])
        self.assertEqual(last(*calls, ("way", 6, 0)), [6, 5, 4, 3, 2, 1, 0])

    def test_not_together(self):
        for x, y in ((0, 3), (3, 0), (5, 0), (0, 5), (2, 4)):
            self.assertEqual(last(*SOME_WELDED, ("way", x, y)), [-33], (x, y))

    def test_together_by_seams_that_are_not_welded_alone(self):
        self.assertEqual(last(*TRIANGLE, ("way", 0, 1)), [-33])
        self.assertEqual(last(*TRIANGLE, ("weld", 0), ("way", 1, 2)), [-33])

    def test_behind_cut(self):
        told = ask(*TRIANGLE, *welds(0, 1, 2), ("cut", 2), ("way", 2, 0), ("cut", 1), ("way", 2, 0))
        self.assertEqual([told[8], told[10]], [[2, 1, 0], [-33]])

    def test_no_such_part(self):
        for far in (6, 7, BIGGEST):
            for pair in ((0, far), (far, 0), (far, far)):
                self.assertEqual(last(*SOME_WELDED, ("way", *pair)), [-2])
        self.assertEqual(last(("begin", 0), ("way", 0, 0)), [-2])

    def test_no_such_part_comes_first(self):
        self.assertEqual(last(("begin", 2), ("way", 0, 2)), [-2])
        self.assertEqual(last(("begin", 2), ("way", 0, 1)), [-33])


class Ring(unittest.TestCase):
    def test_ring_of_three(self):
        for k, want in ((0, [2, 2, 1]), (1, [2, 0, 2]), (2, [2, 1, 0])):
            others = [other for other in range(3) if other != k]
            self.assertEqual(last(*TRIANGLE, *welds(*others), ("ring", k)), want)

    def test_goes_from_its_first_part_to_its_second(self):
        row = ((0, 1, 1), (1, 2, 1))
        self.assertEqual(last(*hull(3, *row, (0, 2, 1)), *welds(0, 1), ("ring", 2)), [2, 0, 1])
        self.assertEqual(last(*hull(3, *row, (2, 0, 1)), *welds(0, 1), ("ring", 2)), [2, 1, 0])

    def test_two_seams_between_the_same_parts(self):
        calls = hull(2, (0, 1, 20), (1, 0, 30), (0, 1, 40))
        self.assertEqual(last(*calls, ("weld", 0), ("ring", 1)), [1, 0])
        self.assertEqual(last(*calls, *welds(1, 0), ("ring", 2)), [1, 0])
        self.assertEqual(last(*calls, *welds(2, 1), ("ring", 0)), [1, 1])

    def test_the_first_place_that_differs_decides(self):
        calls = DIAMOND + [("seam", 0, 3, 1), ("seam", 3, 0, 1)] + welds(0, 1, 2, 3)
        self.assertEqual(last(*calls, ("ring", 4)), [2, 0, 3])
        self.assertEqual(last(*calls, ("ring", 5)), [2, 2, 1])

    def test_a_shorter_one_by_higher_numbers(self):
        calls = SHORT_CUT + [("seam", 3, 0, 1)] + welds(0, 1, 2, 3)
        self.assertEqual(last(*calls, ("ring", 4)), [1, 3])

    def test_free(self):
        for k in range(3):
            self.assertEqual(last(*TRIANGLE, ("ring", k)), [-33])
        self.assertEqual(last(*TRIANGLE, ("weld", 0), ("ring", 2)), [-33])
        self.assertEqual(last(*SOME_WELDED, ("ring", 4)), [-33])

    def test_welded(self):
        for k in range(3):
            self.assertEqual(last(*TRIANGLE, *welds(0, 1, 2), ("ring", k)), [-17])
            self.assertEqual(last(*TRIANGLE, ("weld", k), ("ring", k)), [-17])

    def test_cut_again(self):
        told = ask(*TRIANGLE, *welds(0, 1, 2), ("cut", 0), ("ring", 0), ("cut", 1), ("ring", 0))
        self.assertEqual([told[8], told[10]], [[2, 2, 1], [-33]])

    def test_no_such_seam(self):
        for k in (3, 9, 10, BIGGEST):
            self.assertEqual(last(*TRIANGLE, *welds(0, 1), ("ring", k)), [-2])
        self.assertEqual(last(("begin", 7), ("ring", 0)), [-2])


class Asking(unittest.TestCase):
    def test_changes_nothing(self):
        for call in (
            ("hang", 0, 2), ("hang", 0, 5), ("hang", 0, 6), ("way", 0, 2), ("way", 3, 3), ("way", 0, 3),
            ("way", BIGGEST, 0), ("ring", 3), ("ring", 0), ("ring", 4), ("ring", BIGGEST),
        ):
            self.assertEqual(all_seen(SOME_WELDED + [call]), all_seen(SOME_WELDED), call)


if __name__ == "__main__":
    unittest.main()
