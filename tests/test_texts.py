"""Webs as texts: [5.1], with the refusals."""

import re
import unittest

from samples import BAD_WEBS, TWO_RINGS, full, mixed_webs, path, ring, small_webs, star

from forcemark.errors import BadText, BadWeb
from forcemark.texts import read, written

BAD_TEXTS = (
    "", " ", "\n", "spots", "spots ", "spot 3", "Spots 3", "spots3", " spots 3", "spots  3", "spots 3 ", "spots\n3",
    "spots three", "spots 3.", "spots 3:", "spots: 3", "spots 3 4", "3", "spots x3", "spots 3x",
    "spots 11", "spots 12", "spots 100", "spots 999999999999999", "spots -1", "spots -0", "spots +3",
    "spots 00", "spots 03", "spots 010", "spots 1_0", "spots 1 0",
    "\nspots 3", "spots 3\n", "spots 3\n\n", "spots 3\n ", "spots 3\n\n0: 1", "spots 3\n0: 1\n", "spots 3\n0: 1\n\n1: 2",
    "spots 3\n0:", "spots 3\n0: ", "spots 3\n0", "spots 3\n:", "spots 3\n: 1", "spots 3\n0:1", "spots 3\n0 : 1",
    "spots 3\n0 1", "spots 3\n0 1:", "spots 3\n0:: 1", "spots 3\n0: 1:", "spots 3\n0: : 1", "spots 3\n 0: 1",
    "spots 3\n0:  1", "spots 3\n0: 1 ", "spots 3\n0: 1  2", "spots 3\n0: 1,2", "spots 3\n0: 1, 2", "spots 3\n0: 12",
    "spots 3 \n0: 1", "spots 3\n0: 2 1", "spots 3\n0: 1 1", "spots 3\n0: 1 2 2", "spots 3\n0: 1 2 1",
    "spots 3\n0: 1\n0: 1", "spots 3\n0: 1\n0: 2", "spots 3\n0: 1\n1:", "spots 3\n0: 1\n2:", "spots 3\n0: 1\n1: 2\n2:",
    "spots 3\n1: 2\n0: 1", "spots 3\n1: 0", "spots 3\n1: 0 2", "spots 3\n0: 1\n1: 0 2", "spots 3\n0: 0", "spots 3\n0: 0 1",
    "spots 3\n0: 3", "spots 3\n0: 1 3", "spots 3\n3: 4", "spots 3\n2: 3", "spots 3\n-1: 2", "spots 3\n0: -1",
    "spots 3\n00: 1", "spots 3\n0: 01", "spots 3\n+0: 1", "spots 3\n0: +1", "spots 3\na: 1", "spots 3\n0: b",
    "spots 3\n0: 999999999999999", "spots 3\n999999999999999: 1", "0: 1", "0: 1\nspots 3", "spots 3\nspots 3",
    "spots 3 0: 1", "spots 0\n0: 1", "spots 0\n0:", "spots 1\n0: 1", "spots 1\n0: 0", "spots 10\n0: 10", "spots 10\n9: 10",
)
SIGNS = "0123456789: \nspotx-+_~"
SHAPE = re.compile(r"spots (?:[0-9]|10)(?:\n[0-9]:(?: [0-9])+)*")


def plainly_a_web(text):
    """Whether the text is one that a web is written as, by looking at its shape and its numbers."""
    if not SHAPE.fullmatch(text):
        return False
    count = int(text.split("\n")[0].split(" ")[1])
    rows = [[int(word) for word in re.findall("[0-9]", row)] for row in text.split("\n")[1:]]
    heads = [row[0] for row in rows]
    return heads == sorted(set(heads)) and all(row == sorted(set(row)) and row[-1] < count for row in rows)


def near_texts(text):
    """The text with one sign away, another or one more, and with two rows changed about."""
    for k in range(len(text) + 1):
        yield text[:k] + text[k + 1:]
        yield text[:k]
        yield text[k:]
        for sign in SIGNS:
            yield text[:k] + sign + text[k + 1:]
            yield text[:k] + sign + text[k:]
    rows = text.split("\n")
    for k in range(len(rows) - 1):
        yield "\n".join(rows[:k] + [rows[k + 1], rows[k]] + rows[k + 2:])
        yield "\n".join(rows[:k] + rows[k + 1:])
        yield "\n".join(rows[:k] + [rows[k]] + rows[k:])


class Written(unittest.TestCase):
    def test_ordinary(self):
        self.assertEqual(written(path(3)), "spots 3\n0: 1\n1: 2")
        self.assertEqual(written(ring(5)), "spots 5\n0: 1 4\n1: 2\n2: 3\n3: 4")
        self.assertEqual(written(full(4)), "spots 4\n0: 1 2 3\n1: 2 3\n2: 3")
        self.assertEqual(written((5, [(1, 4)])), "spots 5\n1: 4")

    def test_spots_without_lines_to_greater_ones_have_no_row(self):
        self.assertEqual(written((3, [])), "spots 3")
        self.assertEqual(written((4, [(0, 2), (2, 3)])), "spots 4\n0: 2\n2: 3")

    def test_edges(self):
        self.assertEqual(written((0, [])), "spots 0")
        self.assertEqual(written((1, [])), "spots 1")
        self.assertEqual(written((10, [])), "spots 10")
        self.assertEqual(written((10, [(8, 9)])), "spots 10\n8: 9")
        self.assertEqual(written(star(10)), "spots 10\n0: 1 2 3 4 5 6 7 8 9")
        self.assertEqual(len(written(full(10)).split("\n")), 10)

    def test_bad_webs(self):
        for why, web in BAD_WEBS:
            with self.subTest(why), self.assertRaises(BadWeb):
                written(web)


class Read(unittest.TestCase):
    def test_ordinary(self):
        self.assertEqual(read("spots 3\n0: 1\n1: 2"), path(3))
        self.assertEqual(read("spots 5\n0: 1 4\n1: 2\n2: 3\n3: 4"), ring(5))
        self.assertEqual(read("spots 5\n1: 4"), (5, [(1, 4)]))

    def test_edges(self):
        self.assertEqual(read("spots 0"), (0, []))
        self.assertEqual(read("spots 1"), (1, []))
        self.assertEqual(read("spots 10"), (10, []))
        self.assertEqual(read("spots 10\n8: 9"), (10, [(8, 9)]))
        self.assertEqual(read("spots 10\n0: 1 2 3 4 5 6 7 8 9"), star(10))

    def test_each_web_from_its_own_text(self):
        for web in list(small_webs(5)) + list(mixed_webs((6, 7, 8, 9, 10), 20)) + [full(10), TWO_RINGS]:
            again = read(written(web))
            self.assertEqual(again, web)
            self.assertIs(type(again), tuple)
            self.assertIs(type(again[1]), list)
            self.assertEqual({type(line) for line in again[1]} | {tuple}, {tuple})

    def test_no_two_webs_have_the_same_text(self):
        webs = list(small_webs(5))
        self.assertEqual(len({written(web) for web in webs}), len(webs))

    def test_others_are_refused(self):
        for text in BAD_TEXTS:
            with self.subTest(text), self.assertRaises(BadText):
                read(text)

    def test_every_sign_alone_and_behind(self):
        for sign in [chr(k) for k in range(ord(" "), ord("~") + 1) if k != 37] + ["\n"]:
            self.assertRaises(BadText, read, sign)
            self.assertRaises(BadText, read, "spots 3\n0: 1" + sign)

    def test_texts_near_a_good_one_are_read_just_if_they_are_written_so(self):
        good = 0
        for web in ((0, []), path(3), ring(4), full(4), (10, []), (10, [(0, 9), (3, 7), (8, 9)]), star(10)):
            for text in near_texts(written(web)):
                if plainly_a_web(text):
                    self.assertEqual(written(read(text)), text)
                    good += 1
                else:
                    self.assertRaises(BadText, read, text)
        self.assertGreater(good, 100)


if __name__ == "__main__":
    unittest.main()
