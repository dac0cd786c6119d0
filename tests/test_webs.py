"""Webs and sets: [1.1], and the numbers of [0.3]."""

import unittest

from samples import BAD_SETS, BAD_WEBS, WEB_OF_THREE, full, path, ring, sets_of, small_webs, star

from forcemark.errors import BadSet, BadWeb
from forcemark.webs import look_set, look_web


class LookWeb(unittest.TestCase):
    def test_webs_are_let_through(self):
        for web in (WEB_OF_THREE, path(4), ring(5), full(6), star(7), (4, [(0, 3), (1, 2)])):
            with self.subTest(web):
                self.assertIsNone(look_web(web))

    def test_edges_are_let_through(self):
        for web in ((0, []), (1, []), (2, []), (2, [(0, 1)]), (10, []), (10, [(0, 9)]), (10, [(8, 9)]), full(10)):
            with self.subTest(web):
                self.assertIsNone(look_web(web))

    def test_every_small_web_is_let_through(self):
        for web in small_webs(4):
            self.assertIsNone(look_web(web))

    def test_others_are_refused(self):
        for why, web in BAD_WEBS:
            with self.subTest(why), self.assertRaises(BadWeb):
                look_web(web)

    def test_lists_of_small_pairs_are_webs_just_if_they_rise(self):
        pairs = [(a, b) for a in range(-1, 4) for b in range(-1, 4)]
        for first in pairs:
            for second in pairs:
                good = first < second and all(0 <= a < b < 3 for a, b in (first, second))
                with self.subTest(first=first, second=second):
                    if good:
                        self.assertIsNone(look_web((3, [first, second])))
                    else:
                        self.assertRaises(BadWeb, look_web, (3, [first, second]))

    def test_a_tuple_of_another_length_is_no_web(self):
        for web in ((), (3,), (3, [], [])):
            with self.subTest(web), self.assertRaises(BadWeb):
                look_web(web)


class LookSet(unittest.TestCase):
    def test_sets_are_let_through(self):
        for web in ((0, []), WEB_OF_THREE, (4, []), full(5)):
            for some in sets_of(web[0]):
                with self.subTest(web=web, some=some):
                    self.assertIsNone(look_set(web, some))

    def test_edges_are_let_through(self):
        self.assertIsNone(look_set((10, []), ()))
        self.assertIsNone(look_set((10, []), (9,)))
        self.assertIsNone(look_set(full(10), tuple(range(10))))

    def test_others_are_refused(self):
        for why, some in BAD_SETS:
            with self.subTest(why), self.assertRaises(BadSet):
                look_set(WEB_OF_THREE, some)

    def test_no_spots_have_no_set_but_the_empty_one(self):
        self.assertRaises(BadSet, look_set, (0, []), (0,))

    def test_the_eleventh_spot_is_refused(self):
        self.assertRaises(BadSet, look_set, (10, []), (10,))
        self.assertRaises(BadSet, look_set, full(10), tuple(range(11)))

    def test_the_web_is_refused_first(self):
        for why, web in BAD_WEBS:
            for some in ((), (0,), (1, 0), (99,)):
                with self.subTest(why, some=some), self.assertRaises(BadWeb):
                    look_set(web, some)


if __name__ == "__main__":
    unittest.main()
