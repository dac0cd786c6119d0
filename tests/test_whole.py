"""What holds of the whole: [0.1], [0.2] and [0.3]."""

import copy
import unittest

from plain import plain_all_forts, plain_end
from samples import FAR, FAR_BELOW, TWO_RINGS, full, mixed_webs, path, ring, sets_of, small_webs, star, trying_webs

from forcemark.errors import BadSet, MarkError
from forcemark.fewest import beginnings, cases, fewest, most_failing, quickest, shows, stuck, told
from forcemark.forts import forts, is_fort, least_fort, left_over
from forcemark.marking import all_steps, chains, closure, gone, marks_all, rounds, steps_at, turned
from forcemark.texts import read, written
from forcemark.webs import look_set, look_web

THERE = [(1, 0), (2, 3), (3, 4)]
TREE = ((0, 1), (((1, 2), ()), ((0, 2), ())))

# Each with what is handed in; the good ones, then those that are refused.
CALLS = (
    (look_web, (ring(5),)),
    (look_set, (ring(5), (1, 2))),
    (steps_at, (ring(5), (1, 2))),
    (closure, (ring(5), (1, 2))),
    (marks_all, (ring(5), (1, 2))),
    (rounds, (ring(5), (1, 2))),
    (all_steps, (ring(5), (1, 2))),
    (gone, (ring(5), (1, 2), THERE)),
    (chains, (ring(5), (1, 2), THERE)),
    (turned, (ring(5), (1, 2), THERE)),
    (gone, (full(4), (0, 1, 2, 3), [])),
    (chains, (full(4), (0, 1, 2, 3), [])),
    (turned, (full(4), (0, 1, 2, 3), [])),
    (is_fort, (ring(4), (1, 3))),
    (left_over, (ring(5), (1,))),
    (least_fort, (ring(5), (1,))),
    (least_fort, (ring(5), (1, 2))),
    (forts, (ring(5),)),
    (forts, ((0, []),)),
    (beginnings, (ring(5), 2)),
    (beginnings, (ring(5), 1)),
    (fewest, (ring(5),)),
    (quickest, (ring(5), 2)),
    (quickest, (ring(5), 1)),
    (most_failing, (ring(5),)),
    (stuck, (ring(5), (1,))),
    (told, (ring(5), 2)),
    (told, (ring(5), 1)),
    (cases, (ring(5), (), 1)),
    (cases, (ring(5), (), 2)),
    (shows, (full(3), (), 1, TREE)),
    (shows, (full(3), (), 2, TREE)),
    (written, (ring(5),)),
    (read, ("spots 5\n0: 1 4\n1: 2",)),
    (read, ("spots 0",)),
    (look_web, ((3, [(1, 2), (0, 1)]),)),
    (look_set, (ring(5), (2, 1))),
    (closure, ((3, [(1, 2), (0, 1), (0, 1)]), (0,))),
    (rounds, (ring(5), (2, 1))),
    (all_steps, (ring(5), (2, 1))),
    (gone, (ring(5), (1, 2), [(2, 3), (2, 1)])),
    (chains, (ring(5), (1, 2), [(2, 3), (2, 1)])),
    (turned, (ring(5), (1, 2), [(2, 3)])),
    (is_fort, (ring(5), (2, 1))),
    (left_over, (ring(5), (2, 1))),
    (least_fort, (ring(5), (2, 1))),
    (forts, ((3, [(1, 2), (0, 1)]),)),
    (beginnings, (ring(5), 6)),
    (fewest, ((3, [(1, 2), (0, 1)]),)),
    (quickest, (ring(5), -1)),
    (most_failing, ((3, [(1, 2), (0, 1)]),)),
    (stuck, (ring(5), (2, 1))),
    (told, (ring(5), 6)),
    (cases, (ring(5), (2, 1), 1)),
    (shows, (full(3), (), 1, ((0, 1), (((1, 2), ()),)))),
    (written, ((3, [(1, 2), (0, 1)]),)),
    (read, ("spots 5\n0: 1 4\n",)),
)


def answer(ask, given):
    try:
        return ask(*given)
    except MarkError as error:
        return error.__class__


def lists_in(thing):
    """Each list in a thing, itself too if it is one."""
    found = [thing] if isinstance(thing, list) else []
    if isinstance(thing, (list, tuple)):
        for part in thing:
            found.extend(lists_in(part))
    return found


def spots_in(thing):
    if isinstance(thing, (list, tuple)):
        return [spot for part in thing for spot in spots_in(part)]
    return [thing]


def only_tuples(tree):
    fort, trees = tree
    return type(tree) is type(fort) is type(trees) is tuple and all(only_tuples(part) for part in trees)


def ends_of_all_turns(web, marked):
    """What may be marked in the end, each step being chosen in each way."""
    steps = steps_at(web, marked)
    if not steps:
        return {marked}
    return set().union(*[ends_of_all_turns(web, gone(web, marked, [step])) for step in steps])


class HandedIn(unittest.TestCase):
    def test_it_is_unchanged_afterwards(self):
        for ask, given in CALLS:
            before = copy.deepcopy(given)
            answer(ask, given)
            with self.subTest(ask=ask.__name__, given=before):
                self.assertEqual(given, before)

    def test_it_is_not_kept(self):
        lines = [(0, 1), (1, 2)]
        web = (3, lines)
        self.assertEqual(closure(web, (0,)), (0, 1, 2))
        lines.append((2, 2))
        self.assertRaises(MarkError, closure, web, (0,))
        lines.clear()
        self.assertEqual(closure(web, (0,)), (0,))
        self.assertEqual(steps_at(web, (0,)), [])
        self.assertEqual(rounds(web, (0,)), [(0,)])

    def test_a_web_is_not_kept_by_what_tells_of_forts_and_the_fewest(self):
        lines = [(0, 1), (1, 2)]
        web = (3, lines)
        of_it = (forts, fewest, most_failing, written)
        before = [ask(web) for ask in of_it]
        lines.clear()
        self.assertEqual(before, [[(0, 2)], (0,), (1,), "spots 3\n0: 1\n1: 2"])
        self.assertEqual([ask(web) for ask in of_it], [[(0,), (1,), (2,)], (0, 1, 2), (0, 1), "spots 3"])
        self.assertEqual(beginnings(web, 1), [])
        self.assertEqual(stuck(web, (0,)), ((1, 2), (1, 2)))
        lines.append((2, 2))
        for ask in of_it:
            self.assertRaises(MarkError, ask, web)

    def test_steps_are_not_kept(self):
        steps = [(0, 1)]
        told = chains(path(3), (0,), steps)
        steps.append((1, 2))
        self.assertEqual(told, [[0, 1]])
        self.assertEqual(chains(path(3), (0,), steps), [[0, 1, 2]])


class Told(unittest.TestCase):
    def test_lists_are_new_ones(self):
        for ask, given in CALLS:
            first = lists_in(answer(ask, given))
            others = lists_in(given) + lists_in(answer(ask, given))
            with self.subTest(ask=ask.__name__, given=given):
                self.assertFalse([one for one in first if any(one is other for other in others)])
                self.assertEqual(len({id(one) for one in first}), len(first))

    def test_changing_them_changes_no_later_answer(self):
        for ask, given in CALLS:
            wanted = copy.deepcopy(answer(ask, given))
            for one in lists_in(answer(ask, given)):
                one.clear()
            with self.subTest(ask=ask.__name__, given=given):
                self.assertEqual(answer(ask, given), wanted)

    def test_spots_are_whole_numbers_and_sets_rise(self):
        for web, some in ((ring(6), (2, 3)), (star(5), (1, 2, 3)), (path(10), (4, 5))):
            steps = all_steps(web, some)
            back = turned(web, some, steps)
            sets = rounds(web, some) + [closure(web, some), gone(web, some, steps), back[0]]
            for one in sets:
                self.assertIs(type(one), tuple)
                self.assertEqual(list(one), sorted(set(one)))
            told = [sets, steps, steps_at(web, some), chains(web, some, steps), back]
            self.assertEqual({type(spot) for spot in spots_in(told)}, {int})

    def test_sets_told_of_forts_and_the_fewest_are_rising_tuples(self):
        for web in (ring(6), star(5), path(10), full(6), (4, []), (0, [])):
            sets = forts(web) + beginnings(web, web[0]) + beginnings(web, web[0] // 2) + [fewest(web)]
            sets += [left_over(web, ()), *stuck(web, ()), quickest(web, web[0])[1], told(web, web[0])[1]]
            if web[0] > 0:
                sets += [least_fort(web, ()), most_failing(web), cases(web, (), 0)[0], told(web, 0)[1][0]]
            for one in sets:
                self.assertIs(type(one), tuple)
                self.assertEqual(list(one), sorted(set(one)))
            self.assertLessEqual({type(spot) for spot in spots_in(sets)}, {int})

    def test_kinds_of_what_is_told_of_forts_and_the_fewest(self):
        web = ring(5)
        for told_list in (forts(web), beginnings(web, 2), beginnings(web, 1), read("spots 2")[1]):
            self.assertIs(type(told_list), list)
        for pair in (quickest(web, 2), stuck(web, (1,)), told(web, 2), told(web, 1), cases(web, (), 1), read("spots 2")):
            self.assertIs(type(pair), tuple)
            self.assertEqual(len(pair), 2)
        self.assertIs(type(quickest(web, 2)[0]), int)
        self.assertIs(type(written(web)), str)
        for answered in (is_fort(web, ()), is_fort(web, (0, 1, 2)), shows(web, (), 0, ((0, 2), ()))):
            self.assertIs(type(answered), bool)
        self.assertTrue(only_tuples(cases(full(5), (), 3)))
        self.assertTrue(only_tuples(told(full(5), 3)[1]))

    def test_kinds(self):
        web = path(3)
        steps = [(0, 1), (1, 2)]
        for told in (steps_at(web, (0,)), all_steps(web, (0,)), turned(web, (0,), steps)[1]):
            self.assertIs(type(told), list)
            self.assertEqual({type(step) for step in told}, {tuple})
        self.assertIs(type(rounds(web, (0,))), list)
        self.assertIs(type(chains(web, (0,), steps)), list)
        self.assertEqual({type(chain) for chain in chains(web, (0,), steps)}, {list})
        self.assertIs(type(turned(web, (0,), steps)), tuple)
        self.assertIs(type(turned(web, (0,), steps)[0]), tuple)


class InTheEnd(unittest.TestCase):
    def test_it_is_the_same_in_whatever_turn(self):
        webs = list(small_webs(4)) + [ring(6), star(6), (6, [(0, 1), (0, 2), (1, 3), (2, 4), (3, 5), (4, 5)])]
        for web in webs:
            for some in sets_of(web[0]):
                self.assertEqual(ends_of_all_turns(web, some), {closure(web, some)}, (web, some))

    def test_rounds_and_all_steps_end_in_the_same(self):
        for web in list(small_webs(4)) + [ring(7), star(7), full(6)]:
            for some in sets_of(web[0]):
                end = closure(web, some)
                self.assertEqual(rounds(web, some)[-1], end)
                self.assertEqual(gone(web, some, all_steps(web, some)), end)

    def test_chains_that_mark_all_can_be_gone_from_their_ends(self):
        tried = 0
        for web in list(small_webs(4)) + [ring(7), star(7), full(6), path(10)]:
            for some in sets_of(web[0]):
                if marks_all(web, some):
                    self.go_back(web, some)
                    tried += 1
        self.assertGreater(tried, 500)

    def go_back(self, web, some):
        steps = all_steps(web, some)
        ends, back = turned(web, some, steps)
        told = chains(web, some, steps)
        self.assertEqual(ends, tuple(sorted(chain[-1] for chain in told)))
        self.assertEqual(gone(web, ends, back), tuple(range(web[0])))
        self.assertEqual(sorted(chains(web, ends, back)), sorted(chain[::-1] for chain in told))
        self.assertEqual(turned(web, ends, back), (some, steps))


class FortsAndMarks(unittest.TestCase):
    def test_a_set_marks_all_just_if_each_fort_has_one_of_its_spots(self):
        for web in trying_webs():
            every = [set(fort) for fort in plain_all_forts(web)]
            least = forts(web)
            for some in sets_of(web[0]):
                met = all(fort & set(some) for fort in every)
                self.assertIs(marks_all(web, some), met, (web, some))
                self.assertIs(all(set(fort) & set(some) for fort in least), met, (web, some))
                self.assertIs(least_fort(web, some) is None, met, (web, some))

    def test_what_is_left_over_is_a_fort(self):
        for web in trying_webs():
            for some in sets_of(web[0]):
                if not marks_all(web, some):
                    self.assertIs(is_fort(web, left_over(web, some)), True, (web, some))


class MarksOrATree(unittest.TestCase):
    def test_of_each_size_the_one_or_the_other(self):
        words = []
        for web in trying_webs() + list(mixed_webs((8, 9, 10), 6)) + [TWO_RINGS, full(10), star(10), (10, [])]:
            for size in range(web[0] + 1):
                word, thing = told(web, size)
                words.append(word)
                with self.subTest(web=web, size=size):
                    self.look_at_told(web, size, word, thing)
        self.assertEqual(set(words), {"marks", "tree"})

    def look_at_told(self, web, size, word, thing):
        if word == "marks":
            self.assertEqual(len(thing), size)
            self.assertEqual(plain_end(web, thing), tuple(range(web[0])))
            self.assertIsNone(cases(web, (), size))
        else:
            self.assertEqual(word, "tree")
            self.assertIs(shows(web, (), size, thing), True)
            self.assertEqual(beginnings(web, size), [])
            self.assertIsNone(quickest(web, size))

    def test_trees_are_told_below_the_fewest_and_marks_from_there_on(self):
        for web in trying_webs():
            least = len(fewest(web))
            wanted = ["tree"] * least + ["marks"] * (web[0] + 1 - least)
            self.assertEqual([told(web, size)[0] for size in range(web[0] + 1)], wanted, web)


class Numbers(unittest.TestCase):
    def test_of_up_to_15_figures_are_answered_or_refused(self):
        for number in (FAR_BELOW, -1, 11, 12, FAR):
            for ask in (beginnings, quickest, told):
                self.assertRaises(BadSet, ask, path(3), number)
            self.assertIsNone(cases(path(3), (), number))
            self.assertIs(shows(path(3), (), number, ((0, 2), ())), False)
            self.assertIs(shows(path(3), (), 0, ((number,), ())), False)


if __name__ == "__main__":
    unittest.main()
