"""Texts: points 1 and 14."""

import unittest

from clothlayers.errors import BadText
from clothlayers.notes import read, shown
from samples import NO_NUMBERS, PLAIN, UNEVEN, all_cloths, check_refused, check_refuses_bad_cloths, loop, sized

SIZES = [(1, 1), (1, 12), (12, 1), (12, 12), (11, 12), (12, 11), (2, 3), (5, 4), (7, 11)]
CLOTHS = [sized(*size) for size in SIZES] + [PLAIN, UNEVEN, [[1] * 12] * 12, [[0] * 12] * 12]
SMALL = [cloth for size in [(1, 1), (1, 3), (3, 1), (2, 2), (2, 3)] for cloth in all_cloths(*size)]

NO_TEXTS = [thing for thing in NO_NUMBERS if not isinstance(thing, str)] + [
    0, 1, -1, 10 ** 40, ["#"], ["#.", ".#"], [[1]], ("#",), ("#.", ".#"), {"#": 1}, {"#"}, b"#.", range(1), loop(), str,
]

OTHER_SIGNS = [
    " ", "\t", "\r", "\v", "\f", "\0", "0", "1", "x", "-", ",", "*", "\\", "\x85", "\xa0",
    "\u2028", "\u2029", "\uff03", "\uff0e", "\u2026", "\ufeff", "\u200b",
]

UNLIKE_ROWS = [
    "#\n##", "##\n#", "#.\n.#\n.", "#.\n.\n.#", ".\n.#\n.#", "#" * 12 + "\n" + "#" * 11, "#" * 11 + "\n" + "#" * 12,
]

EMPTY_ROWS = ["\n", "\n\n", "\n" * 11, "#\n", "\n#", "#.\n.#\n", "\n#.\n.#", "#\n\n#", "#.\n\n.#", "#\n\n", "\n\n#"]

TOO_MANY = [
    "\n".join("#" * 13), "\n".join(["#." * 6] * 13), "#" * 13, "#.\n" * 12 + "#.", "\n".join(["." * 13] * 12),
    "\n".join(["." * 13] * 13), "." * 12 + "\n" + "." * 13, "#" * 1000, "#\n" * 1000 + "#", "#\n" * 12,
]


def texts_with(sign):
    """Texts in which the sign stands at the beginning, in the middle, at the end or alone."""
    return [
        sign, sign + "#.", "#" + sign + ".", "#." + sign, sign + ".\n.#", "#" + sign + "\n.#", "#.\n" + sign + "#",
        "#.\n." + sign, sign + "#.\n.#", "#." + sign + "\n.#", "#.\n" + sign + ".#", "#.\n.#" + sign,
        "#." + sign + "\n.#" + sign, sign + "#.\n" + sign + ".#", "#." + sign + ".#", sign * 2 + "\n" + sign * 2,
    ]


class ShownTest(unittest.TestCase):
    def test_one_row_and_several(self):
        self.assertEqual(shown([[1]]), "#")
        self.assertEqual(shown([[0]]), ".")
        self.assertEqual(shown([[1, 0, 0, 1]]), "#..#")
        self.assertEqual(shown([[1], [0], [0]]), "#\n.\n.")
        self.assertEqual(shown(UNEVEN), "#..#\n.###\n..#.")

    def test_the_largest(self):
        self.assertEqual(shown([[1] * 12] * 12), "\n".join(["#" * 12] * 12))
        self.assertEqual(shown([[0, 1] * 6] * 12), "\n".join([".#" * 6] * 12))

    def test_each_sign_and_each_line_feed(self):
        for cloth in CLOTHS + SMALL:
            told = shown(cloth)
            self.assertIs(type(told), str)
            self.assertEqual(len(told), len(cloth) * (len(cloth[0]) + 1) - 1)
            for row, line in zip(cloth, told.split("\n"), strict=True):
                self.assertEqual(line, "".join("#" if sign == 1 else "." for sign in row))

    def test_what_is_no_cloth_is_refused(self):
        check_refuses_bad_cloths(self, shown)

    def test_nothing_changes(self):
        cloth = [row.copy() for row in UNEVEN]
        shown(cloth)
        self.assertEqual(cloth, UNEVEN)


class ReadTest(unittest.TestCase):
    def test_one_row_and_several(self):
        self.assertEqual(read("#"), [[1]])
        self.assertEqual(read("."), [[0]])
        self.assertEqual(read("#..#"), [[1, 0, 0, 1]])
        self.assertEqual(read("#\n.\n."), [[1], [0], [0]])
        self.assertEqual(read("#..#\n.###\n..#."), UNEVEN)

    def test_what_is_shown_is_read_to_the_same_cloth(self):
        for cloth in CLOTHS + SMALL:
            told = read(shown(cloth))
            self.assertEqual(told, cloth)
            self.assertEqual({type(sign) for row in told for sign in row}, {int})
            self.assertEqual(shown(told), shown(cloth))

    def test_new_lists(self):
        for text in ("#", "#.\n#.\n#.", "\n".join(["." * 12] * 12)):
            told = read(text)
            self.assertEqual(len({id(row) for row in told}), len(told))
            wanted = [row.copy() for row in told]
            told[0][0] = 7
            told.append([1])
            self.assertEqual(read(text), wanted)

    def test_what_is_no_text_is_refused(self):
        for bad in NO_TEXTS:
            check_refused(self, BadText, read, bad)

    def test_the_empty_text_is_refused(self):
        check_refused(self, BadText, read, "")

    def test_other_signs_are_refused_in_each_place(self):
        for sign in OTHER_SIGNS:
            for text in texts_with(sign):
                check_refused(self, BadText, read, text)

    def test_a_carriage_return_before_the_line_feed_is_refused(self):
        for text in ("#.\r\n.#", "#.\r\n.#\r", "#.\r\n.#\r\n", "#\n\r."):
            check_refused(self, BadText, read, text)

    def test_rows_of_unlike_length_are_refused(self):
        for text in UNLIKE_ROWS:
            check_refused(self, BadText, read, text)

    def test_an_empty_row_is_refused(self):
        for text in EMPTY_ROWS:
            check_refused(self, BadText, read, text)

    def test_more_than_twelve_are_refused(self):
        for text in TOO_MANY:
            check_refused(self, BadText, read, text)

    def test_of_all_short_texts_just_those_that_show_a_cloth_are_read(self):
        shows = {shown(cloth): cloth for size in [(1, 1), (1, 2), (1, 3), (1, 4), (1, 5), (2, 1), (2, 2), (3, 1)]
                 for cloth in all_cloths(*size)}
        texts = [""]
        for _ in range(5):
            texts = [""] + [text + sign for text in texts for sign in "#.\n "]
        for text in texts:
            if text in shows:
                self.assertEqual(read(text), shows[text])
            else:
                check_refused(self, BadText, read, text)


if __name__ == "__main__":
    unittest.main()
