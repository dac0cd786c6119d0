"""Trees of cases: [4.2], with their refusals."""

import itertools
import unittest

from plain import plain_is_tree, plain_may_mark, plain_shows
from samples import (
    BAD_SETS, BAD_WEBS, FAR, FAR_BELOW, TWO_RINGS, WEB_OF_THREE, full, mixed_webs, path, ring, sets_of, small_webs,
    star,
)

from forcemark.errors import BadSet, BadTree, BadWeb
from forcemark.fewest import cases, shows

ALL_TEN = tuple(range(10))
NO_SETS = ((1, 0), (0, 0), (3,), (-1,), (FAR,), (FAR_BELOW, 0), (0, FAR))

# Each shows of full(3) that one spot never marks all; two do.
FULL_TREES = (
    ((0, 1), (((1, 2), ()), ((0, 2), ()))),
    ((0, 2), (((1, 2), ()), ((0, 1), ()))),
    ((0, 1, 2), (((1, 2), ()), ((0, 2), ()), ((0, 1), ()))),
)


def tower(fort, high):
    """A tree with so many trees within one another beneath it."""
    tree = (fort, ())
    for k in range(high):
        tree = (fort, (tree,) * len(fort))
    return tree


def depth(tree):
    return max([0] + [1 + depth(part) for part in tree[1]])


def low_trees(count):
    """Every tree of sets of so many spots with at most one tree beneath another."""
    leaves = [(fort, ()) for fort in sets_of(count)]
    for fort, trees in leaves:
        yield (fort, ())
        for beneath in itertools.product(leaves, repeat=len(fort)):
            yield (fort, beneath)


def with_changes(tree, forts):
    """The tree with one fort or one of its tuples of trees changed, at each place."""
    fort, trees = tree
    for other in forts:
        yield (other, trees)
    if trees:
        yield (fort, ())
        yield (fort, trees[1:])
        yield (fort, trees + trees[:1])
        yield (fort, trees[::-1])
        yield (fort, (trees[0],) * len(fort))
        yield (fort, (tree,) + trees[1:])
        yield (fort, trees[:-1] + ((),))
        yield trees[0]
    else:
        yield (fort, (tree,) * len(fort))
        yield (fort, (tree,))
        yield (fort,)
        yield (fort, trees, trees)
    for k, part in enumerate(trees):
        for changed in with_changes(part, forts):
            yield (fort, trees[:k] + (changed,) + trees[k + 1:])


class Shows(unittest.TestCase):
    def test_ordinary(self):
        for tree in FULL_TREES:
            with self.subTest(tree):
                self.assertIs(shows(full(3), (), 1, tree), True)
                self.assertIs(shows(full(3), (), 2, tree), False)
        self.assertIs(shows(path(3), (1,), 0, ((0, 2), ())), True)

    def test_the_fort_must_be_one(self):
        self.assertIs(shows(path(3), (), 0, ((0, 1), ())), False)
        self.assertIs(shows(path(3), (), 0, ((), ())), False)
        self.assertIs(shows(full(3), (), 1, ((0, 1), (((1,), ()), ((0, 2), ())))), False)
        self.assertIs(shows(full(3), (), 1, ((0, 1), (((1, 2), ()), ((2,), ())))), False)

    def test_a_tuple_that_is_no_set_is_no_fort(self):
        for fort in NO_SETS:
            for web in (full(3), (3, [])):
                with self.subTest(fort=fort, web=web):
                    self.assertIs(shows(web, (), 0, (fort, ())), False)
                    self.assertIs(shows(web, (), 1, (fort, (((0,), ()),) * len(fort))), False)

    def test_the_fort_has_no_spot_of_the_set(self):
        self.assertIs(shows(path(3), (0,), 0, ((0, 2), ())), False)
        self.assertIs(shows(path(3), (2,), 0, ((0, 2), ())), False)
        self.assertIs(shows(full(3), (), 1, ((0, 1), (((0, 2), ()), ((0, 2), ())))), False)
        self.assertIs(shows(full(3), (), 1, ((0, 1), (((1, 2), ()), ((1, 2), ())))), False)

    def test_a_number_above_0_asks_for_trees(self):
        self.assertIs(shows((2, []), (), 0, ((0,), ())), True)
        self.assertIs(shows((2, []), (), 1, ((0,), ())), False)
        self.assertIs(shows((2, []), (), 1, ((0,), (((1,), ()),))), True)

    def test_trees_that_are_not_asked_for_do_no_harm(self):
        self.assertIs(shows(full(3), (), 0, FULL_TREES[0]), True)
        self.assertIs(shows((2, []), (), 0, ((0,), (((), ()),))), True)
        self.assertIs(shows((2, []), (), 0, tower((0,), 10)), True)

    def test_numbers_below_0_and_far_off(self):
        for tree in FULL_TREES + (((0, 1), ()), ((), ())):
            for more in (-1, -2, FAR_BELOW, 11, FAR):
                with self.subTest(tree=tree, more=more):
                    self.assertIs(shows(full(3), (), more, tree), False)

    def test_edges(self):
        self.assertIs(shows((0, []), (), 0, ((), ())), False)
        self.assertIs(shows((1, []), (), 0, ((0,), ())), True)
        self.assertIs(shows((1, []), (0,), 0, ((0,), ())), False)
        tree = ((9,), ())
        for k in range(8, -1, -1):
            tree = ((k,), (tree,))
        self.assertIs(shows((10, []), (), 9, tree), True)
        self.assertIs(shows((10, []), (), 10, tree), False)
        self.assertIs(shows((10, []), (9,), 9, tree), False)
        self.assertIs(shows((10, []), (9,), 8, tree), True)
        self.assertIs(shows(full(10), ALL_TEN, 0, (ALL_TEN, ())), False)
        self.assertIs(shows(full(10), (), 0, (ALL_TEN, ())), True)

    def test_a_tree_that_goes_on_with_another_set(self):
        tree = ((0,), (((2,), ()),))
        self.assertIs(shows((3, []), (1,), 1, tree), True)
        self.assertIs(shows((3, []), (2,), 1, tree), False)


class Cases(unittest.TestCase):
    def test_ordinary(self):
        self.assertEqual(cases(path(3), (1,), 0), ((0, 2), ()))
        self.assertIsNone(cases(path(3), (1,), 1))
        self.assertIsNone(cases(path(3), (0,), 0))
        self.assertIs(plain_shows(full(4), (), 2, cases(full(4), (), 2)), True)
        self.assertIs(plain_shows(full(4), (3,), 1, cases(full(4), (3,), 1)), True)
        self.assertIsNone(cases(full(4), (3,), 2))

    def test_edges(self):
        self.assertIsNone(cases((0, []), (), 0))
        self.assertIsNone(cases((0, []), (), 10))
        self.assertEqual(cases((1, []), (), 0), ((0,), ()))
        self.assertIsNone(cases((1, []), (0,), 0))
        for web, more in (((10, []), 9), (full(10), 8), (star(10), 7), (ring(10), 1), (TWO_RINGS, 4)):
            with self.subTest(web):
                tree = cases(web, (), more)
                self.assertIs(plain_shows(web, (), more, tree), True)
                self.assertLessEqual(depth(tree), more)
                self.assertIsNone(cases(web, (), more + 1))
                self.assertIsNone(cases(web, (), 10))

    def test_no_tree_of_numbers_below_0_or_beyond_all_spots(self):
        for web in ((0, []), (1, []), WEB_OF_THREE, full(10), (10, [])):
            for more in (-1, -2, FAR_BELOW, web[0] + 1, 11, 12, FAR):
                with self.subTest(web=web, more=more):
                    self.assertIsNone(cases(web, (), more))

    def test_every_set_and_number(self):
        for web in list(small_webs(4)) + list(mixed_webs((5, 6), 5)):
            for some in sets_of(web[0]):
                for more in range(web[0] + 2):
                    self.tree_just_if_none_marks(web, some, more)

    def tree_just_if_none_marks(self, web, some, more):
        tree = cases(web, some, more)
        if plain_may_mark(web, some, more):
            self.assertIsNone(tree, (web, some, more))
        else:
            self.assertTrue(plain_is_tree(tree), (web, some, more))
            self.assertIs(plain_shows(web, some, more, tree), True, (web, some, more))
            self.assertIs(shows(web, some, more, tree), True, (web, some, more))


class ChangedTrees(unittest.TestCase):
    def test_another_number_or_set(self):
        shown = 0
        for web in list(small_webs(3)) + list(mixed_webs((4, 5), 6)):
            for size in range(web[0]):
                tree = cases(web, (), size)
                if tree is not None:
                    for some in sets_of(web[0]):
                        for more in range(-1, web[0] + 2):
                            shown += self.shown_as_the_words_have_it(web, some, more, tree)
        self.assertGreater(shown, 100)

    def test_another_fort_or_tree(self):
        answers = []
        for web in list(small_webs(3)) + list(mixed_webs((4, 5), 6)) + [full(4), star(5), ring(5)]:
            forts = sets_of(web[0]) + list(NO_SETS)
            for size in range(min(web[0], 3)):
                tree = cases(web, (), size)
                if tree is not None:
                    for changed in with_changes(tree, forts):
                        answers.append(self.shown_as_the_words_have_it(web, (), size, changed))
        for kind in (True, False, BadTree):
            self.assertGreater(answers.count(kind), 100)

    def shown_as_the_words_have_it(self, web, some, more, tree):
        if not plain_is_tree(tree):
            self.assertRaises(BadTree, shows, web, some, more, tree)
            return BadTree
        wanted = plain_shows(web, some, more, tree)
        self.assertIs(shows(web, some, more, tree), wanted, (web, some, more, tree))
        if wanted:
            self.assertFalse(plain_may_mark(web, some, more), (web, some, more, tree))
        return wanted

    def test_every_low_tree_of_the_smallest_webs(self):
        answers = []
        for web in small_webs(3):
            for some in sets_of(web[0]):
                for tree in low_trees(web[0]):
                    answers.append(self.shown_as_the_words_have_it(web, some, 1, tree))
        self.assertGreater(answers.count(True), 20)
        self.assertGreater(answers.count(False), 20)


class Refusals(unittest.TestCase):
    BAD_TREES = (
        ("an empty tuple", ()),
        ("a fort alone", ((0, 1),)),
        ("three things", ((0, 1), (), ())),
        ("fewer trees than spots", ((0, 1), (((1, 2), ()),))),
        ("more trees than spots", ((0, 1), (((1, 2), ()),) * 3)),
        ("a tree though the fort is empty", ((), (((1, 2), ()),))),
        ("an empty tuple within", ((0, 1), ((), ((0, 2), ())))),
        ("an empty tuple within at the end", ((0, 1), (((1, 2), ()), ()))),
        ("a fort alone within", ((0, 1), (((1, 2),), ((0, 2), ())))),
        ("three things within", ((0, 1), (((1, 2), ()), ((0, 2), (), ())))),
        ("fewer trees than spots within", ((0, 1), (((1, 2), (((0,), ()),)), ((0, 2), ())))),
        ("within what is no fort", ((2,), (((),),))),
        ("within what is no set", ((7, 7), (((1, 2), ()), ((0, 2),)))),
        ("eleven within one another", tower((0,), 11)),
        ("eleven within one another, of two spots", tower((0, 1), 11)),
        ("eleven within one another at the end", ((0, 1), (((1, 2), ()), tower((0,), 10)))),
        ("many within one another", tower((0,), 5000)),
    )

    def test_bad_trees_whatever_the_number(self):
        for why, tree in self.BAD_TREES:
            for more in (0, 1, 2, -1, FAR, FAR_BELOW):
                with self.subTest(why, more=more), self.assertRaises(BadTree):
                    shows(full(3), (), more, tree)

    def test_bad_trees_on_no_spots_and_on_ten(self):
        for why, tree in self.BAD_TREES:
            for web in ((0, []), full(10), (10, [])):
                with self.subTest(why, web=web), self.assertRaises(BadTree):
                    shows(web, (), 1, tree)

    def test_ten_within_one_another_are_let_through(self):
        for more in (-1, 0, 1, 9, 10, 11):
            self.assertIs(shows((10, []), (), more, tower((0,), 10)), more == 0)
            self.assertIs(shows(full(3), (), more, tower((0, 1), 10)), more == 0)
            self.assertIs(shows((10, []), (), more, ((0, 1), (tower((0,), 9), ((2,), ())))), more == 0)

    def test_faults_of_forts_are_no_bad_trees(self):
        for fort in NO_SETS + ((), (0, 1), (0, 1, 2)):
            self.assertIs(shows(path(3), (0,), 0, (fort, ())), False)

    def test_bad_sets_are_refused_ahead_of_trees(self):
        for why, some in BAD_SETS:
            for more in (0, 1, -1, FAR):
                with self.subTest(why, more=more):
                    self.assertRaises(BadSet, cases, WEB_OF_THREE, some, more)
                    self.assertRaises(BadSet, shows, WEB_OF_THREE, some, more, ((0, 2), ()))
                    self.assertRaises(BadSet, shows, WEB_OF_THREE, some, more, ())
                    self.assertRaises(BadSet, shows, WEB_OF_THREE, some, more, tower((0,), 11))

    def test_bad_webs_are_refused_ahead_of_sets_and_trees(self):
        for why, web in BAD_WEBS:
            for some in ((), (0,), (1, 0), (99,)):
                for more in (0, -1, FAR):
                    with self.subTest(why, some=some, more=more):
                        self.assertRaises(BadWeb, cases, web, some, more)
                        self.assertRaises(BadWeb, shows, web, some, more, ((0, 2), ()))
                        self.assertRaises(BadWeb, shows, web, some, more, ())


if __name__ == "__main__":
    unittest.main()
