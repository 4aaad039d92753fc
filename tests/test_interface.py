"""The form of what is handed in and given back; what the program doesn't do."""

import ast
import pathlib
import unittest

import hullseams
from hullseams.seams import answers
from tests.helper import BIGGEST, NAMES, flat, hull, welds

PACKAGE = pathlib.Path(hullseams.__file__).parent


class Untouchable(list):
    """A list that may be read alone."""

    def refuse(self, *given, **named):
        raise AssertionError("what is handed in is changed")

    append = clear = extend = insert = pop = remove = reverse = sort = refuse
    __setitem__ = __delitem__ = __iadd__ = __imul__ = refuse


LINE = flat(
    hull(4, (0, 1, 5), (1, 2, 7), (2, 0, 11), (0, 1, 7), (3, 3, 1), (4, 0, 1))
    + [("order",), ("least",), ("locked",), ("many",)]
    + welds(0, 1, 2, 2, 9)
    + [("cut", 0), ("cut", 0), ("strain", 2, 1000), ("sofar",), ("part",), ("begin", 8), ("begin", 1), ("order",)]
)
# All 21 calls: answered, then refused where they can be.
ALL_NAMED = (
    [("told",), ("begin", 9)]
    + hull(4, (0, 1, 5), (1, 2, 7), (2, 0, 11), (0, 1, 7), (0, 0, 1))
    + [("part",), ("order",), ("least",), ("locked",), ("many",), ("next",), ("worth", 0), ("together",)]
    + welds(0, 1, 0)
    + [("hang", 0, 2), ("hang", 0, 5), ("way", 2, 0), ("way", 0, 4), ("way", 9, 0), ("ring", 2), ("ring", 0)]
    + [("pieces",), ("holds",), ("weld", 2), ("look", 2), ("look", 4), ("worth", 2), ("worth", BIGGEST)]
    + [("strain", 2, 9), ("strain", 2, 0), ("sofar",), ("cut", 1), ("cut", 1), ("holds",), ("told",)]
    + welds(1, 3)
    + [("next",), ("begin", 0), ("next",), ("pieces",)]
)
ALL_CALLS = flat(ALL_NAMED)
ALL_TOLD = [
    1, -11, 1, -22,
    1, 0, 1, 0, 1, 1, 1, 2, 1, 3, 1, -22,
    1, 4, 5, 4, 2, 1, 3, 0, 2, 12, 0, 3, 2, 3, 0, 1, 2, 2, 2, 0, 1, 2, 1, 3,
    2, 0, 0, 2, 0, 0, 1, -17,
    1, 1, 1, -2, 3, 2, 1, 0, 1, -33, 1, -2, 3, 2, 1, 0, 1, -17,
    1, 3, 3, 2, 0, 1, 2, 1, 11, 5, 11, 2, 0, 1, 1, 1, -2, 1, -17, 1, -2,
    1, 11, 1, -22, 1, 9, 1, 0, 1, -6, 3, 2, 0, 2, 3, 5, 4, 2,
    2, 1, 16, 2, 1, 23,
    1, -6, 1, 0, 1, -6, 1, 0,
]
TOLD = [
    1, 0, 1, 0, 1, 1, 1, 2, 1, 3, 1, -22, 1, -2,
    5, 4, 2, 1, 3, 0, 2, 12, 0, 3, 2, 3, 0, 1, 2,
    2, 0, 0, 2, 0, 0, 2, 1, 11, 1, -17, 1, -2,
    1, 0, 1, -6, 1, 11, 1, 1000, 1, 4, 1, -22, 1, 0, 1, 0,
]


class Numbers(unittest.TestCase):
    def test_each_call_by_its_number(self):
        begun = [0, 3, 2, 0, 1, 5, 2, 1, 0, 6]
        before = [1, 0, 1, 0, 1, 1]
        for call, want in (
            ([0, 2], [1, 0]),
            ([1], [1, 3]),
            ([2, 1, 2, 9], [1, 2]),
            ([3, 1], [2, 0, 0]),
            ([4, 1], [1, -6]),
            ([5, 1, 9], [1, 6]),
            ([6], [3, 2, 1, 0]),
            ([7], [2, 5, 0]),
            ([8], [1, 0]),
            ([9], [2, 1, 0]),
            ([10], [1, 1]),
            ([11, 0, 1], [1, 0]),
            ([12, 2, 2], [1, 0]),
            ([13, 0], [1, -33]),
            ([14], [1, 3]),
            ([15], [1, 2]),
            ([16], [1, 0]),
            ([17], [2, 1, 0]),
            ([18, 0], [1, 1]),
            ([19, 1], [5, 6, 1, 0, 0, 0]),
            ([20], [3, 3, 2, 0]),
        ):
            self.assertEqual(answers(begun + call), before + want, call)

    def test_a_whole_line(self):
        self.assertEqual(answers(LINE), TOLD)
        self.assertEqual(answers(ALL_CALLS), ALL_TOLD)
        self.assertEqual({call[0] for call in ALL_NAMED}, set(NAMES))

    def test_numbers_behind_a_refused_call_are_no_calls(self):
        self.assertEqual(answers([2, 0, 0, 0, 3, 0, 4, 0, 5, 0, 0, 0, 1, 1]), [1, -11] * 4 + [1, 0, 1, 1])
        self.assertEqual(
            answers([11, 0, 0, 12, 0, 0, 13, 0, 18, 0, 19, 0, 0, 1, 20]), [1, -11] * 5 + [1, 0, 3, 1, 0, 0]
        )

    def test_biggest_numbers(self):
        big = BIGGEST
        self.assertEqual(
            answers([0, big, 0, 7, 2, big, big, big, 3, big, 4, big, 5, big, big, 2, 0, 1, big]),
            [1, -22, 1, 0, 1, -2, 1, -2, 1, -2, 1, -2, 1, -22],
        )
        self.assertEqual(
            answers([0, 7, 11, 0, big, 11, big, 0, 12, 0, big, 12, big, big, 13, big, 18, big, 19, big]),
            [1, 0] + [1, -2] * 7,
        )

    def test_eighty_calls(self):
        want = [1, 0]
        for k in range(10):
            want.extend([1, k])
        self.assertEqual(answers([0, 7] + [2, 0, 1, 1] * 79), want + [1, -28] * 69)

    def test_kinds(self):
        for line in (LINE, ALL_CALLS):
            told = answers(line)
            self.assertIs(type(told), list)
            self.assertEqual({type(number) for number in told}, {int})


class NothingKept(unittest.TestCase):
    def test_the_list_is_the_same_afterwards(self):
        for wanted in (LINE, ALL_CALLS):
            line = list(wanted)
            answers(line)
            self.assertEqual(line, wanted)

    def test_the_list_is_not_changed_for_a_while_either(self):
        self.assertEqual(answers(Untouchable(LINE)), TOLD)
        self.assertEqual(answers(Untouchable(ALL_CALLS)), ALL_TOLD)

    def test_asked_twice(self):
        for line in (list(LINE), list(ALL_CALLS)):
            first = answers(line)
            second = answers(line)
            self.assertEqual(first, second)
            self.assertIsNot(first, second)

    def test_what_is_given_back_is_the_askers_own(self):
        answers(LINE).clear()
        self.assertEqual(answers(LINE), TOLD)

    def test_each_line_has_a_new_object(self):
        answers([0, 7, 2, 0, 1, 5, 3, 0])
        self.assertEqual(answers([1]), [1, -11])
        self.assertEqual(answers([0, 2, 6, 8]), [1, 0, 1, 0, 1, 0])


class Files(unittest.TestCase):
    def sources(self):
        files = sorted(PACKAGE.rglob("*.py"))
        self.assertTrue(files)
        return [(file.name, file.read_text(encoding="ascii")) for file in files]

    def test_imports_prints_and_reads_nothing(self):
        for name, text in self.sources():
            for node in ast.walk(ast.parse(text)):
                self.assertNotIsInstance(node, (ast.Import, ast.ImportFrom), name)
                if isinstance(node, ast.Name):
                    self.assertNotIn(node.id, ("print", "open", "input", "exec", "eval", "compile", "__import__"))

    def test_sizes_and_signs(self):
        for name, text in self.sources():
            rows = text.split("\n")
            self.assertLessEqual(len(rows), 400, name)
            self.assertLessEqual(max(len(row) for row in rows), 120, name)
            self.assertTrue(all(" " <= sign <= "~" or sign == "\n" for sign in text), name)
            for node in ast.walk(ast.parse(text)):
                if isinstance(node, ast.FunctionDef):
                    self.assertLessEqual(node.end_lineno - node.lineno + 1, 40, node.name)


if __name__ == "__main__":
    unittest.main()
