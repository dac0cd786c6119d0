"""What holds of the whole: [0.1], [0.2] and [0.3], as far as it speaks of marking."""

import copy
import unittest

from samples import full, path, ring, sets_of, small_webs, star

from forcemark.errors import MarkError
from forcemark.marking import all_steps, chains, closure, gone, marks_all, rounds, steps_at, turned
from forcemark.webs import look_set, look_web

THERE = [(1, 0), (2, 3), (3, 4)]

# Each with what is handed in; the good ones, then those that are refused.
CALLS = (
    (look_web, (ring(5),)),
    (look_set, (ring(5), (1, 2))),
    (steps_at, (ring(5), (1, 2))),
    (closure, (ring(5), (1, 2))),
    (marks_all, (ring(5), (1, 2))),
    (rounds, (ring(5), (1, 2))),
    (all_steps, (ring(5), (1, 2))),
    (gone, (ring(5), (1, 2), THERE)),
    (chains, (ring(5), (1, 2), THERE)),
    (turned, (ring(5), (1, 2), THERE)),
    (gone, (full(4), (0, 1, 2, 3), [])),
    (chains, (full(4), (0, 1, 2, 3), [])),
    (turned, (full(4), (0, 1, 2, 3), [])),
    (look_web, ((3, [(1, 2), (0, 1)]),)),
    (look_set, (ring(5), (2, 1))),
    (closure, ((3, [(1, 2), (0, 1), (0, 1)]), (0,))),
    (rounds, (ring(5), (2, 1))),
    (all_steps, (ring(5), (2, 1))),
    (gone, (ring(5), (1, 2), [(2, 3), (2, 1)])),
    (chains, (ring(5), (1, 2), [(2, 3), (2, 1)])),
    (turned, (ring(5), (1, 2), [(2, 3)])),
)


def answer(ask, given):
    try:
        return ask(*given)
    except MarkError as error:
        return error.__class__


def lists_in(thing):
    """Each list in a thing, itself too if it is one."""
    found = [thing] if isinstance(thing, list) else []
    if isinstance(thing, (list, tuple)):
        for part in thing:
            found.extend(lists_in(part))
    return found


def spots_in(thing):
    if isinstance(thing, (list, tuple)):
        return [spot for part in thing for spot in spots_in(part)]
    return [thing]


def ends_of_all_turns(web, marked):
    """What may be marked in the end, each step being chosen in each way."""
    steps = steps_at(web, marked)
    if not steps:
        return {marked}
    return set().union(*[ends_of_all_turns(web, gone(web, marked, [step])) for step in steps])


class HandedIn(unittest.TestCase):
    def test_it_is_unchanged_afterwards(self):
        for ask, given in CALLS:
            before = copy.deepcopy(given)
            answer(ask, given)
            with self.subTest(ask=ask.__name__, given=before):
                self.assertEqual(given, before)

    def test_it_is_not_kept(self):
        lines = [(0, 1), (1, 2)]
        web = (3, lines)
        self.assertEqual(closure(web, (0,)), (0, 1, 2))
        lines.append((2, 2))
        self.assertRaises(MarkError, closure, web, (0,))
        lines.clear()
        self.assertEqual(closure(web, (0,)), (0,))
        self.assertEqual(steps_at(web, (0,)), [])
        self.assertEqual(rounds(web, (0,)), [(0,)])

    def test_steps_are_not_kept(self):
        steps = [(0, 1)]
        told = chains(path(3), (0,), steps)
        steps.append((1, 2))
        self.assertEqual(told, [[0, 1]])
        self.assertEqual(chains(path(3), (0,), steps), [[0, 1, 2]])


class Told(unittest.TestCase):
    def test_lists_are_new_ones(self):
        for ask, given in CALLS:
            first = lists_in(answer(ask, given))
            others = lists_in(given) + lists_in(answer(ask, given))
            with self.subTest(ask=ask.__name__, given=given):
                self.assertFalse([one for one in first if any(one is other for other in others)])
                self.assertEqual(len({id(one) for one in first}), len(first))

    def test_changing_them_changes_no_later_answer(self):
        for ask, given in CALLS:
            wanted = copy.deepcopy(answer(ask, given))
            for one in lists_in(answer(ask, given)):
                one.clear()
            with self.subTest(ask=ask.__name__, given=given):
                self.assertEqual(answer(ask, given), wanted)

    def test_spots_are_whole_numbers_and_sets_rise(self):
        for web, some in ((ring(6), (2, 3)), (star(5), (1, 2, 3)), (path(10), (4, 5))):
            steps = all_steps(web, some)
            back = turned(web, some, steps)
            sets = rounds(web, some) + [closure(web, some), gone(web, some, steps), back[0]]
            for one in sets:
                self.assertIs(type(one), tuple)
                self.assertEqual(list(one), sorted(set(one)))
            told = [sets, steps, steps_at(web, some), chains(web, some, steps), back]
            self.assertEqual({type(spot) for spot in spots_in(told)}, {int})

    def test_kinds(self):
        web = path(3)
        steps = [(0, 1), (1, 2)]
        for told in (steps_at(web, (0,)), all_steps(web, (0,)), turned(web, (0,), steps)[1]):
            self.assertIs(type(told), list)
            self.assertEqual({type(step) for step in told}, {tuple})
        self.assertIs(type(rounds(web, (0,))), list)
        self.assertIs(type(chains(web, (0,), steps)), list)
        self.assertEqual({type(chain) for chain in chains(web, (0,), steps)}, {list})
        self.assertIs(type(turned(web, (0,), steps)), tuple)
        self.assertIs(type(turned(web, (0,), steps)[0]), tuple)


class InTheEnd(unittest.TestCase):
    def test_it_is_the_same_in_whatever_turn(self):
        webs = list(small_webs(4)) + [ring(6), star(6), (6, [(0, 1), (0, 2), (1, 3), (2, 4), (3, 5), (4, 5)])]
        for web in webs:
            for some in sets_of(web[0]):
                self.assertEqual(ends_of_all_turns(web, some), {closure(web, some)}, (web, some))

    def test_rounds_and_all_steps_end_in_the_same(self):
        for web in list(small_webs(4)) + [ring(7), star(7), full(6)]:
            for some in sets_of(web[0]):
                end = closure(web, some)
                self.assertEqual(rounds(web, some)[-1], end)
                self.assertEqual(gone(web, some, all_steps(web, some)), end)

    def test_chains_that_mark_all_can_be_gone_from_their_ends(self):
        tried = 0
        for web in list(small_webs(4)) + [ring(7), star(7), full(6), path(10)]:
            for some in sets_of(web[0]):
                if marks_all(web, some):
                    self.go_back(web, some)
                    tried += 1
        self.assertGreater(tried, 500)

    def go_back(self, web, some):
        steps = all_steps(web, some)
        ends, back = turned(web, some, steps)
        told = chains(web, some, steps)
        self.assertEqual(ends, tuple(sorted(chain[-1] for chain in told)))
        self.assertEqual(gone(web, ends, back), tuple(range(web[0])))
        self.assertEqual(sorted(chains(web, ends, back)), sorted(chain[::-1] for chain in told))
        self.assertEqual(turned(web, ends, back), (some, steps))


if __name__ == "__main__":
    unittest.main()
