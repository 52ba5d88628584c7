import unittest
from itertools import product

from doorbeat.errors import BadText, DoorError
from doorbeat.notes import read, written

REST = ("rest",)
DEEDS = [REST]
DEEDS += [("read", cell) for cell in range(4)]
DEEDS += [("write", cell, worth) for cell in range(4) for worth in range(3)]


class TestWritten(unittest.TestCase):
    def test_is_defined_in_its_file(self):
        self.assertEqual(written.__module__, "doorbeat.notes")

    def test_words(self):
        self.assertEqual(written([("read", 2)], []), "r2\n")
        self.assertEqual(written([("write", 2, 0)], []), "w20\n")
        self.assertEqual(written([REST], []), "-\n")
        self.assertEqual(written([], [("write", 0, 2)]), "\nw02")

    def test_rows(self):
        left = [("write", 0, 1), REST, ("read", 3)]
        right = [("read", 0), ("write", 3, 2)]
        self.assertEqual(written(left, right), "w01 - r3\nr0 w32")

    def test_no_deeds(self):
        self.assertEqual(written([], []), "\n")

    def test_all_deeds(self):
        text = "- r0 r1 r2 r3 w00 w01 w02 w10 w11 w12 w20 w21 w22 w30 w31 w32"
        self.assertEqual(written(DEEDS, []), text + "\n")
        self.assertEqual(written([], DEEDS), "\n" + text)

    def test_forty_deeds(self):
        self.assertEqual(written([REST] * 40, [("read", 1)] * 40), "- " * 39 + "-\n" + "r1 " * 39 + "r1")


class TestRead(unittest.TestCase):
    def refused(self, text, row, place):
        with self.subTest(text=text):
            with self.assertRaises(BadText) as caught:
                read(text)
            self.assertIs(caught.exception.__class__, BadText)
            self.assertIsInstance(caught.exception, DoorError)
            self.assertEqual((caught.exception.row, caught.exception.place), (row, place))

    def test_is_defined_in_its_file(self):
        self.assertEqual(read.__module__, "doorbeat.notes")

    def test_kinds(self):
        told = read("r0\n-")
        self.assertEqual([told.__class__, *[part.__class__ for part in told]], [tuple, list, list])
        self.assertEqual([told[0][0].__class__, told[1][0].__class__], [tuple, tuple])

    def test_rows(self):
        self.assertEqual(read("w01 - r3\nr0 w32"),
                         ([("write", 0, 1), REST, ("read", 3)], [("read", 0), ("write", 3, 2)]))

    def test_empty_rows(self):
        self.assertEqual(read("\n"), ([], []))
        self.assertEqual(read("r2\n"), ([("read", 2)], []))
        self.assertEqual(read("\nw20"), ([], [("write", 2, 0)]))

    def test_what_is_written_is_read(self):
        programs = [list(program) for many in range(3) for program in product(DEEDS[::3], repeat=many)]
        programs += [DEEDS, DEEDS[::-1], [REST] * 40, [("write", 3, 2)] * 40]
        for left in programs:
            for right in programs:
                self.assertEqual(read(written(left, right)), (left, right))

    def test_words_that_are_none(self):
        for word in ["x", "r", "w", "R0", "W00", "r4", "r9", "r-1", "r-", "w4", "w0", "w40", "w03", "w09", "w90",
                     "w0-1", "w000", "w012", "r00", "r01", "r12", "--", "-0", "rest", "read", "0", "00", "20", "2r",
                     "02w", "r+1", "r_1", "r0,", ",", "r0.", "_", "~", "r0w00", "-r0"]:
            with self.subTest(word=word):
                self.refused(f"{word}\n", 0, 0)
                self.refused(f"\n{word}", 1, 0)
                self.refused(f"- r0 {word} -\n-", 0, 2)
                self.refused(f"w00\n- r0 w11 {word}", 1, 3)

    def test_empty_words(self):
        self.refused("r0  r1\n", 0, 1)
        self.refused("\nr0  r1", 1, 1)
        self.refused("r0 - r1  -\n-", 0, 3)
        self.refused("r0 \n-", 0, 1)
        self.refused("-\nr0 ", 1, 1)
        self.refused("- - \n", 0, 2)
        self.refused(" r0\n-", 0, 0)
        self.refused("-\n r0", 1, 0)
        self.refused(" \n", 0, 0)
        self.refused("\n ", 1, 0)
        self.refused("r0\n  ", 1, 0)
        self.refused("r0   r0\n", 0, 1)

    def test_forty_first_word(self):
        forty = "r0 " * 39 + "w00"
        self.assertEqual(read(f"{forty}\n{forty}"), ([("read", 0)] * 39 + [("write", 0, 0)],) * 2)
        for more in [" -", " - -", " x", " ", "  ", " -" * 20]:
            self.refused(f"{forty}{more}\n-", 0, 40)
            self.refused(f"-\n{forty}{more}", 1, 40)
        self.refused("- " * 39 + "x -\n", 0, 39)
        self.refused("- " * 40 + "\n", 0, 40)

    def test_one_row(self):
        self.refused("", 1, 0)
        self.refused("r0", 1, 0)
        self.refused("r0 w01 -", 1, 0)

    def test_more_than_two_rows(self):
        self.refused("\n\n", 2, 0)
        self.refused("r0\n-\n", 2, 0)
        self.refused("r0\n-\n-", 2, 0)
        self.refused("r0\n-\nx", 2, 0)
        self.refused("r0\n-\n\n\n", 2, 0)
        self.refused("r0\n\n-", 2, 0)

    def test_first_in_the_order_of_the_text(self):
        self.refused("- x y\nx", 0, 1)
        self.refused("- x\nx\nx", 0, 1)
        self.refused("-\n- - x  y", 1, 2)
        self.refused("x", 0, 0)
        self.refused("- x", 0, 1)
        self.refused("- ", 0, 1)
        self.refused("x\n-\n-", 0, 0)
        self.refused("-\n- x\n-", 1, 1)
        self.refused("- -\nx\n", 1, 0)
        self.refused("- " * 40 + "-\nx", 0, 40)
        self.refused("-\n" + "- " * 40 + "-\n", 1, 40)


if __name__ == "__main__":
    unittest.main()
