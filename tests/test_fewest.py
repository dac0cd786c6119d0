"""The fewest marks and the quickest: [4.1], and what is told of a size: [4.2]; with their refusals."""

import unittest

from plain import plain_end, plain_marking, plain_rounds, plain_shows
from samples import (
    BAD_SETS, BAD_WEBS, FAR, FAR_BELOW, TWO_RINGS, WEB_OF_THREE, full, mixed_webs, path, ring, sets_of, star,
    trying_webs,
)

from forcemark.errors import BadSet, BadWeb
from forcemark.fewest import beginnings, fewest, most_failing, quickest, stuck, told

OF_A_SIZE = (beginnings, quickest, told)
ALL_TEN = tuple(range(10))


class Beginnings(unittest.TestCase):
    def test_ordinary(self):
        self.assertEqual(beginnings(path(4), 1), [(0,), (3,)])
        self.assertEqual(beginnings(path(3), 2), [(0, 1), (0, 2), (1, 2)])
        self.assertEqual(beginnings(ring(4), 2), [(0, 1), (0, 3), (1, 2), (2, 3)])
        self.assertEqual(beginnings(full(4), 2), [])

    def test_edges(self):
        self.assertEqual(beginnings((0, []), 0), [()])
        self.assertEqual(beginnings((1, []), 0), [])
        self.assertEqual(beginnings((1, []), 1), [(0,)])
        self.assertEqual(beginnings((10, []), 9), [])
        self.assertEqual(beginnings((10, []), 10), [ALL_TEN])
        self.assertEqual(beginnings(full(10), 0), [])
        self.assertEqual(beginnings(full(10), 8), [])
        self.assertEqual(beginnings(full(10), 9)[0], ALL_TEN[:9])
        self.assertEqual(len(beginnings(full(10), 9)), 10)
        self.assertEqual(beginnings(path(10), 1), [(0,), (9,)])

    def test_every_size(self):
        for web in trying_webs() + list(mixed_webs((10,), 3)):
            marking = plain_marking(web)
            for size in range(web[0] + 1):
                wanted = [some for some in marking if len(some) == size]
                self.assertEqual(beginnings(web, size), wanted, (web, size))


class Fewest(unittest.TestCase):
    def test_ordinary(self):
        self.assertEqual(fewest(path(4)), (0,))
        self.assertEqual(fewest(ring(4)), (0, 1))
        self.assertEqual(fewest(star(5)), (1, 2, 3))
        self.assertEqual(fewest((3, [(0, 2)])), (0, 1))
        self.assertEqual(fewest((4, [(0, 1), (0, 2)])), (1, 3))

    def test_edges(self):
        self.assertEqual(fewest((0, [])), ())
        self.assertEqual(fewest((1, [])), (0,))
        self.assertEqual(fewest((10, [])), ALL_TEN)
        self.assertEqual(fewest(full(10)), ALL_TEN[:9])
        self.assertEqual(fewest(path(10)), (0,))
        self.assertEqual(len(fewest(TWO_RINGS)), 5)

    def test_every_web(self):
        for web in trying_webs() + list(mixed_webs((10,), 3)):
            self.assertEqual(fewest(web), plain_marking(web)[0], web)


class Quickest(unittest.TestCase):
    def test_ordinary(self):
        self.assertEqual(quickest(path(4), 1), (3, (0,)))
        self.assertEqual(quickest(path(4), 2), (1, (0, 3)))
        self.assertEqual(quickest(ring(6), 2), (2, (0, 1)))
        self.assertEqual(quickest(star(4), 3), (1, (0, 1, 2)))

    def test_none_without_a_beginning(self):
        self.assertIsNone(quickest(full(4), 2))
        self.assertIsNone(quickest(path(3), 0))

    def test_edges(self):
        self.assertEqual(quickest((0, []), 0), (0, ()))
        self.assertIsNone(quickest((1, []), 0))
        self.assertEqual(quickest((1, []), 1), (0, (0,)))
        self.assertEqual(quickest(path(10), 1), (9, (0,)))
        self.assertEqual(quickest(path(10), 10), (0, ALL_TEN))
        self.assertEqual(quickest(full(10), 9), (1, ALL_TEN[:9]))
        self.assertIsNone(quickest((10, []), 9))

    def test_every_size(self):
        for web in trying_webs() + list(mixed_webs((10,), 3)):
            marking = [(len(plain_rounds(web, some)) - 1, some) for some in plain_marking(web)]
            for size in range(web[0] + 1):
                wanted = sorted(pair for pair in marking if len(pair[1]) == size)
                self.assertEqual(quickest(web, size), wanted[0] if wanted else None, (web, size))


class MostFailing(unittest.TestCase):
    def test_ordinary(self):
        self.assertEqual(most_failing(path(3)), (1,))
        self.assertEqual(most_failing(path(2)), ())
        self.assertEqual(most_failing(star(4)), (0, 1))
        self.assertEqual(most_failing(ring(6)), (0, 2, 4))
        self.assertEqual(most_failing((3, [(0, 2)])), (0, 2))

    def test_edges(self):
        self.assertIsNone(most_failing((0, [])))
        self.assertEqual(most_failing((1, [])), ())
        self.assertEqual(most_failing((10, [])), ALL_TEN[:9])
        self.assertEqual(most_failing(full(10)), ALL_TEN[:8])

    def test_every_web(self):
        for web in trying_webs() + list(mixed_webs((10,), 3)):
            failing = [some for some in sets_of(web[0]) if len(plain_end(web, some)) < web[0]]
            wanted = sorted(failing, key=lambda some: (-len(some), some))
            self.assertEqual(most_failing(web), wanted[0] if wanted else None, web)


class Stuck(unittest.TestCase):
    def test_ordinary(self):
        self.assertEqual(stuck(path(3), (1,)), ((0, 2), (0,)))
        self.assertEqual(stuck(path(3), ()), ((0, 1, 2), (0,)))
        self.assertEqual(stuck(star(6), (1, 2)), ((3, 4, 5), (3, 4)))
        self.assertEqual(stuck((5, [(0, 1), (3, 4)]), (1,)), ((2, 3, 4), (2, 3)))

    def test_nothing_is_left_over(self):
        self.assertEqual(stuck(path(3), (0,)), ((), ()))
        self.assertEqual(stuck(path(3), (0, 1, 2)), ((), ()))

    def test_edges(self):
        self.assertEqual(stuck((0, []), ()), ((), ()))
        self.assertEqual(stuck((10, []), ()), (ALL_TEN, ALL_TEN))
        self.assertEqual(stuck((10, []), (4,)), ((0, 1, 2, 3, 5, 6, 7, 8, 9), (0, 1, 2, 3, 5, 6, 7, 8, 9)))
        self.assertEqual(stuck(full(10), ()), (ALL_TEN, ALL_TEN[:9]))
        self.assertEqual(stuck(full(10), ALL_TEN), ((), ()))

    def test_every_set(self):
        for web in trying_webs():
            marking = set(plain_marking(web))
            for some in sets_of(web[0]):
                left = tuple(k for k in range(web[0]) if k not in plain_end(web, some))
                more = next(m for m in sets_of(web[0]) if tuple(sorted({*some, *m})) in marking)
                self.assertEqual(stuck(web, some), (left, more), (web, some))


class ToldOfASize(unittest.TestCase):
    def test_ordinary(self):
        self.assertEqual(told(path(4), 1), ("marks", (0,)))
        self.assertEqual(told(path(4), 2), ("marks", (0, 1)))
        self.assertEqual(told(ring(4), 2), ("marks", (0, 1)))
        word, tree = told(full(4), 2)
        self.assertEqual(word, "tree")
        self.assertIs(plain_shows(full(4), (), 2, tree), True)

    def test_edges(self):
        self.assertEqual(told((0, []), 0), ("marks", ()))
        self.assertEqual(told((1, []), 0), ("tree", ((0,), ())))
        self.assertEqual(told((1, []), 1), ("marks", (0,)))
        self.assertEqual(told((10, []), 10), ("marks", ALL_TEN))
        self.assertEqual(told(full(10), 9), ("marks", ALL_TEN[:9]))
        for web, size in (((10, []), 9), (full(10), 8), (star(10), 7), (TWO_RINGS, 4), (path(10), 0)):
            word, tree = told(web, size)
            self.assertEqual(word, "tree")
            self.assertIs(plain_shows(web, (), size, tree), True)

    def test_every_size(self):
        for web in trying_webs() + list(mixed_webs((10,), 3)):
            marking = plain_marking(web)
            for size in range(web[0] + 1):
                found = [some for some in marking if len(some) == size]
                word, thing = told(web, size)
                with self.subTest(web=web, size=size):
                    self.assertEqual(word, "marks" if found else "tree")
                    if found:
                        self.assertEqual(thing, found[0])
                    else:
                        self.assertIs(plain_shows(web, (), size, thing), True)


class Refusals(unittest.TestCase):
    def test_sizes_that_no_set_has(self):
        for web in ((0, []), (1, []), WEB_OF_THREE, full(10), (10, [])):
            for size in (-1, -2, FAR_BELOW, web[0] + 1, web[0] + 2, FAR):
                for ask in OF_A_SIZE:
                    with self.subTest(web=web, size=size, ask=ask.__name__), self.assertRaises(BadSet):
                        ask(web, size)

    def test_bad_webs_are_refused_ahead_of_sizes(self):
        for why, web in BAD_WEBS:
            for size in (0, 1, -1, FAR, FAR_BELOW):
                for ask in OF_A_SIZE:
                    with self.subTest(why, size=size, ask=ask.__name__), self.assertRaises(BadWeb):
                        ask(web, size)

    def test_bad_webs(self):
        for why, web in BAD_WEBS:
            for ask in (fewest, most_failing):
                with self.subTest(why, ask=ask.__name__), self.assertRaises(BadWeb):
                    ask(web)

    def test_bad_webs_are_refused_ahead_of_sets(self):
        for why, web in BAD_WEBS:
            for some in ((), (0,), (1, 0), (99,)):
                with self.subTest(why, some=some), self.assertRaises(BadWeb):
                    stuck(web, some)

    def test_bad_sets(self):
        for why, some in BAD_SETS:
            with self.subTest(why), self.assertRaises(BadSet):
                stuck(WEB_OF_THREE, some)


if __name__ == "__main__":
    unittest.main()
