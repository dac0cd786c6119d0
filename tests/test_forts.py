"""Forts: [3.1], with their refusals."""

import unittest

from plain import plain_all_forts, plain_end, plain_is_fort
from samples import BAD_SETS, BAD_WEBS, TWO_RINGS, WEB_OF_THREE, full, mixed_webs, path, ring, sets_of, star, trying_webs

from forcemark.errors import BadSet, BadWeb
from forcemark.forts import forts, is_fort, least_fort, left_over

OF_A_SET = (is_fort, left_over, least_fort)
ALL_TEN = tuple(range(10))


class IsFort(unittest.TestCase):
    def test_ordinary(self):
        self.assertIs(is_fort(path(3), (0, 2)), True)
        self.assertIs(is_fort(path(3), (0, 1, 2)), True)
        self.assertIs(is_fort(path(3), (0, 1)), False)
        self.assertIs(is_fort(path(3), (1,)), False)
        self.assertIs(is_fort(ring(4), (1, 3)), True)
        self.assertIs(is_fort(ring(4), (1, 2)), False)

    def test_spots_within_may_have_just_one_neighbour_in_it(self):
        self.assertIs(is_fort(path(4), (0, 1, 3)), True)
        self.assertIs(is_fort(path(2), (0, 1)), True)

    def test_the_empty_set_is_none(self):
        for web in ((0, []), (1, []), path(3), full(10), (10, [])):
            with self.subTest(web):
                self.assertIs(is_fort(web, ()), False)

    def test_edges(self):
        self.assertIs(is_fort((1, []), (0,)), True)
        self.assertIs(is_fort((10, []), (9,)), True)
        self.assertIs(is_fort(full(10), (8, 9)), True)
        self.assertIs(is_fort(full(10), (9,)), False)
        self.assertIs(is_fort(full(10), ALL_TEN), True)
        self.assertIs(is_fort(path(10), ALL_TEN[1:]), False)

    def test_every_set(self):
        for web in trying_webs() + list(mixed_webs((10,), 3)):
            for some in sets_of(web[0]):
                self.assertIs(is_fort(web, some), plain_is_fort(web, some), (web, some))


class LeftOver(unittest.TestCase):
    def test_ordinary(self):
        self.assertEqual(left_over(path(3), (1,)), (0, 2))
        self.assertEqual(left_over(path(3), (0,)), ())
        self.assertEqual(left_over(star(5), (1, 2)), (3, 4))
        self.assertEqual(left_over((5, [(0, 1), (3, 4)]), (1,)), (2, 3, 4))

    def test_edges(self):
        self.assertEqual(left_over((0, []), ()), ())
        self.assertEqual(left_over((10, []), ()), ALL_TEN)
        self.assertEqual(left_over((10, []), ALL_TEN[:9]), (9,))
        self.assertEqual(left_over(full(10), ALL_TEN[:8]), (8, 9))
        self.assertEqual(left_over(full(10), ALL_TEN), ())

    def test_every_set(self):
        for web in trying_webs():
            for some in sets_of(web[0]):
                wanted = set(range(web[0])) - set(plain_end(web, some))
                self.assertEqual(left_over(web, some), tuple(sorted(wanted)), (web, some))


class LeastFort(unittest.TestCase):
    def test_ordinary(self):
        self.assertEqual(least_fort(path(3), (1,)), (0, 2))
        self.assertEqual(least_fort(ring(4), ()), (0, 2))
        self.assertEqual(least_fort(ring(4), (0,)), (1, 3))
        self.assertEqual(least_fort(star(5), (1, 2)), (3, 4))

    def test_fewer_spots_go_ahead_of_lesser_spots(self):
        self.assertEqual(least_fort((5, [(0, 1), (1, 2), (2, 3)]), ()), (4,))

    def test_none_if_all_is_marked(self):
        self.assertIsNone(least_fort(path(3), (0,)))
        self.assertIsNone(least_fort(ring(5), (2, 3)))

    def test_edges(self):
        self.assertIsNone(least_fort((0, []), ()))
        self.assertEqual(least_fort((1, []), ()), (0,))
        self.assertEqual(least_fort((10, []), ALL_TEN[:9]), (9,))
        self.assertEqual(least_fort(full(10), ()), (0, 1))
        self.assertEqual(least_fort(full(10), ALL_TEN[:8]), (8, 9))
        self.assertIsNone(least_fort(full(10), ALL_TEN[:9]))
        self.assertEqual(least_fort(path(10), ()), (0, 1, 3, 5, 7, 9))

    def test_every_set(self):
        for web in trying_webs():
            forts_of_it = plain_all_forts(web)
            for some in sets_of(web[0]):
                end = set(plain_end(web, some))
                wanted = [fort for fort in forts_of_it if not end & set(fort)]
                self.assertEqual(least_fort(web, some), wanted[0] if wanted else None, (web, some))


class Forts(unittest.TestCase):
    def test_ordinary(self):
        self.assertEqual(forts(path(3)), [(0, 2)])
        self.assertEqual(forts(path(4)), [(0, 1, 3), (0, 2, 3)])
        self.assertEqual(forts(ring(4)), [(0, 2), (1, 3)])
        self.assertEqual(forts(star(4)), [(1, 2), (1, 3), (2, 3)])

    def test_fewer_spots_first(self):
        self.assertEqual(forts((5, [(0, 1), (1, 2), (2, 3)])), [(4,), (0, 1, 3), (0, 2, 3)])

    def test_edges(self):
        self.assertEqual(forts((0, [])), [])
        self.assertEqual(forts((1, [])), [(0,)])
        self.assertEqual(forts((10, [])), [(k,) for k in range(10)])
        self.assertEqual(forts(full(10)), [(a, b) for a in range(10) for b in range(a + 1, 10)])

    def test_every_web(self):
        for web in trying_webs() + [TWO_RINGS, path(10)] + list(mixed_webs((10,), 3)):
            every = [set(fort) for fort in plain_all_forts(web)]
            wanted = [tuple(sorted(fort)) for fort in every if not any(other < fort for other in every)]
            self.assertEqual(forts(web), wanted, web)


class Refusals(unittest.TestCase):
    def test_bad_webs(self):
        for why, web in BAD_WEBS:
            with self.subTest(why), self.assertRaises(BadWeb):
                forts(web)

    def test_bad_webs_are_refused_ahead_of_sets(self):
        for why, web in BAD_WEBS:
            for some in ((), (0,), (1, 0), (99,)):
                for ask in OF_A_SET:
                    with self.subTest(why, ask=ask.__name__, some=some), self.assertRaises(BadWeb):
                        ask(web, some)

    def test_bad_sets(self):
        for why, some in BAD_SETS:
            for ask in OF_A_SET:
                with self.subTest(why, ask=ask.__name__), self.assertRaises(BadSet):
                    ask(WEB_OF_THREE, some)

    def test_sets_of_no_spots_and_of_ten(self):
        for ask in OF_A_SET:
            self.assertRaises(BadSet, ask, (0, []), (0,))
            self.assertRaises(BadSet, ask, full(10), (10,))


if __name__ == "__main__":
    unittest.main()
