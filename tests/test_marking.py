"""Steps, rounds and chains: [1.2] and [2.1], with their refusals."""

import unittest

from plain import plain_rounds, plain_steps
from samples import BAD_SETS, BAD_WEBS, FAR, FAR_BELOW, WEB_OF_THREE, full, path, ring, sets_of, small_webs, star

from forcemark.errors import BadSet, BadSteps, BadWeb
from forcemark.marking import all_steps, chains, closure, gone, marks_all, rounds, steps_at, turned

OF_A_SET = (steps_at, closure, marks_all, rounds, all_steps)
OF_STEPS = (gone, chains, turned)

# Two ends at 0 and 1, which meet in 2; 3 hangs on 2.
FORK = (4, [(0, 2), (1, 2), (2, 3)])


class StepsAt(unittest.TestCase):
    def test_ordinary(self):
        self.assertEqual(steps_at(path(3), (0,)), [(0, 1)])
        self.assertEqual(steps_at(path(3), (2,)), [(2, 1)])
        self.assertEqual(steps_at(FORK, (0, 1)), [(0, 2), (1, 2)])
        self.assertEqual(steps_at(ring(5), (1, 2)), [(1, 0), (2, 3)])

    def test_two_that_are_not_marked_hold_a_spot_back(self):
        self.assertEqual(steps_at(path(3), (1,)), [])
        self.assertEqual(steps_at(star(4), (0,)), [])
        self.assertEqual(steps_at(star(4), (0, 1, 2)), [(0, 3)])

    def test_edges(self):
        self.assertEqual(steps_at((0, []), ()), [])
        self.assertEqual(steps_at((10, []), (0, 4, 9)), [])
        self.assertEqual(steps_at(path(10), ()), [])
        self.assertEqual(steps_at(path(10), tuple(range(10))), [])
        self.assertEqual(steps_at(full(10), tuple(range(9))), [(k, 9) for k in range(9)])
        self.assertEqual(steps_at(full(10), tuple(range(8))), [])

    def test_every_small_web(self):
        for web in small_webs(4):
            for some in sets_of(web[0]):
                self.assertEqual(steps_at(web, some), plain_steps(web, some), (web, some))


class Closure(unittest.TestCase):
    def test_ordinary(self):
        self.assertEqual(closure(path(3), (0,)), (0, 1, 2))
        self.assertEqual(closure(path(3), (1,)), (1,))
        self.assertEqual(closure(star(5), (1, 2)), (0, 1, 2))
        self.assertEqual(closure((5, [(0, 1), (3, 4)]), (1, 4)), (0, 1, 3, 4))

    def test_edges(self):
        self.assertEqual(closure((0, []), ()), ())
        self.assertEqual(closure((10, []), ()), ())
        self.assertEqual(closure((10, []), (3, 7)), (3, 7))
        self.assertEqual(closure(path(10), ()), ())
        self.assertEqual(closure(path(10), (9,)), tuple(range(10)))
        self.assertEqual(closure(full(10), tuple(range(10))), tuple(range(10)))

    def test_every_small_web(self):
        for web in small_webs(4):
            for some in sets_of(web[0]):
                marked = list(some)
                while plain_steps(web, marked):
                    marked.append(plain_steps(web, marked)[-1][1])
                self.assertEqual(closure(web, some), tuple(sorted(marked)), (web, some))


class MarksAll(unittest.TestCase):
    def test_ordinary(self):
        self.assertIs(marks_all(path(3), (0,)), True)
        self.assertIs(marks_all(path(3), (1,)), False)
        self.assertIs(marks_all(ring(6), (2, 3)), True)
        self.assertIs(marks_all(ring(6), (1, 3)), False)

    def test_edges(self):
        self.assertIs(marks_all((0, []), ()), True)
        self.assertIs(marks_all((1, []), ()), False)
        self.assertIs(marks_all((10, []), tuple(range(9))), False)
        self.assertIs(marks_all((10, []), tuple(range(10))), True)
        self.assertIs(marks_all(full(10), tuple(range(8))), False)
        self.assertIs(marks_all(full(10), tuple(range(1, 10))), True)

    def test_every_small_web(self):
        for web in small_webs(4):
            for some in sets_of(web[0]):
                self.assertIs(marks_all(web, some), closure(web, some) == tuple(range(web[0])))


class Rounds(unittest.TestCase):
    def test_ordinary(self):
        self.assertEqual(rounds(path(4), (1, 2)), [(1, 2), (0, 1, 2, 3)])
        self.assertEqual(rounds(path(4), (3,)), [(3,), (2, 3), (1, 2, 3), (0, 1, 2, 3)])
        self.assertEqual(rounds(FORK, (0, 1)), [(0, 1), (0, 1, 2), (0, 1, 2, 3)])
        self.assertEqual(rounds(ring(5), (1, 2)), [(1, 2), (0, 1, 2, 3), (0, 1, 2, 3, 4)])

    def test_a_spot_marked_in_a_round_waits_for_the_next(self):
        self.assertEqual(rounds(path(3), (0,)), [(0,), (0, 1), (0, 1, 2)])

    def test_edges(self):
        self.assertEqual(rounds((0, []), ()), [()])
        self.assertEqual(rounds((10, []), (0, 9)), [(0, 9)])
        self.assertEqual(rounds(path(10), ()), [()])
        self.assertEqual(rounds(path(10), tuple(range(10))), [tuple(range(10))])
        self.assertEqual(rounds(path(10), (0,)), [tuple(range(k)) for k in range(1, 11)])

    def test_every_small_web(self):
        for web in small_webs(4):
            for some in sets_of(web[0]):
                self.assertEqual(rounds(web, some), plain_rounds(web, some), (web, some))


class Gone(unittest.TestCase):
    def test_ordinary(self):
        self.assertEqual(gone(path(4), (3,), [(3, 2), (2, 1)]), (1, 2, 3))
        self.assertEqual(gone(ring(5), (1, 2), [(2, 3), (1, 0), (0, 4)]), (0, 1, 2, 3, 4))
        self.assertEqual(gone(FORK, (0, 1), [(1, 2)]), (0, 1, 2))

    def test_no_steps(self):
        self.assertEqual(gone((0, []), (), []), ())
        self.assertEqual(gone(path(4), (), []), ())
        self.assertEqual(gone(path(4), (1, 3), []), (1, 3))
        self.assertEqual(gone(full(10), tuple(range(10)), []), tuple(range(10)))

    def test_ten_spots(self):
        self.assertEqual(gone(path(10), (9,), [(k, k - 1) for k in range(9, 0, -1)]), tuple(range(10)))


class AllSteps(unittest.TestCase):
    def test_ordinary(self):
        self.assertEqual(all_steps(path(4), (3,)), [(3, 2), (2, 1), (1, 0)])
        self.assertEqual(all_steps(FORK, (0, 1)), [(0, 2), (2, 3)])
        self.assertEqual(all_steps(star(5), (1, 2)), [(1, 0)])

    def test_each_is_the_first_of_those_that_may_be_done_then(self):
        self.assertEqual(all_steps(ring(5), (1, 2)), [(1, 0), (0, 4), (2, 3)])
        self.assertEqual(all_steps(path(5), (1, 2)), [(1, 0), (2, 3), (3, 4)])
        self.assertEqual(all_steps((4, [(0, 3), (1, 2)]), (1, 3)), [(1, 2), (3, 0)])

    def test_edges(self):
        self.assertEqual(all_steps((0, []), ()), [])
        self.assertEqual(all_steps((10, []), (5,)), [])
        self.assertEqual(all_steps(path(10), ()), [])
        self.assertEqual(all_steps(path(10), tuple(range(10))), [])
        self.assertEqual(all_steps(full(10), tuple(range(9))), [(0, 9)])

    def test_every_small_web(self):
        for web in small_webs(4):
            for some in sets_of(web[0]):
                wanted = []
                marked = list(some)
                while plain_steps(web, marked):
                    wanted.append(plain_steps(web, marked)[0])
                    marked.append(wanted[-1][1])
                self.assertEqual(all_steps(web, some), wanted, (web, some))


class Chains(unittest.TestCase):
    def test_ordinary(self):
        self.assertEqual(chains(path(4), (3,), [(3, 2), (2, 1)]), [[3, 2, 1]])
        self.assertEqual(chains(ring(5), (1, 2), [(2, 3), (1, 0), (0, 4)]), [[1, 0, 4], [2, 3]])
        self.assertEqual(chains(ring(5), (1, 2), [(2, 3), (3, 4), (1, 0)]), [[1, 0], [2, 3, 4]])

    def test_a_spot_that_marks_none_is_a_chain_by_itself(self):
        self.assertEqual(chains(FORK, (0, 1), [(1, 2), (2, 3)]), [[0], [1, 2, 3]])
        self.assertEqual(chains((3, [(0, 1)]), (1, 2), [(1, 0)]), [[1, 0], [2]])

    def test_no_steps(self):
        self.assertEqual(chains((0, []), (), []), [])
        self.assertEqual(chains(path(4), (), []), [])
        self.assertEqual(chains(path(4), (0, 2), []), [[0], [2]])
        self.assertEqual(chains((10, []), tuple(range(10)), []), [[k] for k in range(10)])

    def test_each_spot_that_is_marked_stands_in_one_chain(self):
        for web in small_webs(4):
            for some in sets_of(web[0]):
                steps = all_steps(web, some)
                told = chains(web, some, steps)
                self.assertEqual(tuple(chain[0] for chain in told), some)
                self.assertEqual(tuple(sorted(sum(told, []))), closure(web, some))
                links = [pair for chain in told for pair in zip(chain, chain[1:])]
                self.assertEqual(sorted(links), sorted(steps))


class Turned(unittest.TestCase):
    def test_ordinary(self):
        self.assertEqual(turned(path(3), (0,), [(0, 1), (1, 2)]), ((2,), [(2, 1), (1, 0)]))
        self.assertEqual(turned(ring(5), (1, 2), [(2, 3), (1, 0), (0, 4)]), ((3, 4), [(4, 0), (0, 1), (3, 2)]))
        self.assertEqual(turned(FORK, (0, 1), [(1, 2), (2, 3)]), ((0, 3), [(3, 2), (2, 1)]))

    def test_the_ends_rise_where_the_chains_cross(self):
        web = (4, [(0, 3), (1, 2)])
        self.assertEqual(turned(web, (0, 1), [(0, 3), (1, 2)]), ((2, 3), [(2, 1), (3, 0)]))

    def test_no_steps(self):
        self.assertEqual(turned((0, []), (), []), ((), []))
        self.assertEqual(turned((1, []), (0,), []), ((0,), []))
        self.assertEqual(turned(full(10), tuple(range(10)), []), (tuple(range(10)), []))

    def test_ten_spots(self):
        there = [(k, k + 1) for k in range(9)]
        back = [(k, k - 1) for k in range(9, 0, -1)]
        self.assertEqual(turned(path(10), (0,), there), ((9,), back))

    def test_not_all_marked(self):
        self.assertRaises(BadSteps, turned, path(3), (0,), [])
        self.assertRaises(BadSteps, turned, path(3), (0,), [(0, 1)])
        self.assertRaises(BadSteps, turned, star(5), (1, 2), [(1, 0)])
        self.assertRaises(BadSteps, turned, (1, []), (), [])


class Refusals(unittest.TestCase):
    BAD_STEPS = (
        ("its spot is not marked", (1,), [(0, 1)]),
        ("none is marked", (), [(0, 1)]),
        ("the other is no neighbour", (0,), [(0, 2)]),
        ("the other is marked already", (0, 1), [(0, 1)]),
        ("another neighbour is not marked", (1,), [(1, 0)]),
        ("a step to itself", (0,), [(0, 0)]),
        ("the same step twice", (0,), [(0, 1), (0, 1)]),
        ("in the wrong turn", (0,), [(1, 2), (0, 1)]),
        ("the wrong way about", (0,), [(1, 0)]),
        ("back again", (0,), [(0, 1), (1, 0)]),
        ("one too many at the end", (0,), [(0, 1), (1, 2), (2, 3)]),
        ("bad first, then one that could be done", (0,), [(0, 2), (0, 1)]),
        ("a step though all is marked", (0, 1, 2), [(1, 2)]),
        ("to a spot that is not there", (2,), [(2, 3)]),
        ("from a spot that is not there", (0,), [(3, 1)]),
        ("to a spot below 0", (0,), [(0, -1)]),
        ("to a spot far off", (0,), [(0, FAR)]),
        ("from a spot far off", (0,), [(FAR, 1)]),
        ("from and to spots far below 0", (0,), [(FAR_BELOW, FAR_BELOW)]),
        ("an empty step", (0,), [()]),
        ("a step of one spot", (0,), [(0,)]),
        ("a step of three spots", (0,), [(0, 1, 2)]),
    )

    def test_steps_that_may_not_be_done(self):
        for why, some, steps in self.BAD_STEPS:
            for ask in OF_STEPS:
                with self.subTest(why, ask=ask.__name__), self.assertRaises(BadSteps):
                    ask(WEB_OF_THREE, some, steps)

    def test_steps_on_a_web_without_spots(self):
        for ask in OF_STEPS:
            with self.subTest(ask=ask.__name__), self.assertRaises(BadSteps):
                ask((0, []), (), [(0, 1)])

    def test_bad_sets(self):
        for why, some in BAD_SETS:
            for ask in OF_A_SET:
                with self.subTest(why, ask=ask.__name__), self.assertRaises(BadSet):
                    ask(WEB_OF_THREE, some)

    def test_bad_sets_are_refused_ahead_of_steps(self):
        for why, some in BAD_SETS:
            for steps in ([], [(0, 1)], [(7, 8)], [()]):
                for ask in OF_STEPS:
                    with self.subTest(why, ask=ask.__name__, steps=steps), self.assertRaises(BadSet):
                        ask(WEB_OF_THREE, some, steps)

    def test_bad_webs_are_refused_ahead_of_sets(self):
        for why, web in BAD_WEBS:
            for some in ((), (0,), (1, 0), (99,)):
                for ask in OF_A_SET:
                    with self.subTest(why, ask=ask.__name__, some=some), self.assertRaises(BadWeb):
                        ask(web, some)

    def test_bad_webs_are_refused_ahead_of_sets_and_steps(self):
        for why, web in BAD_WEBS:
            for some in ((), (0,), (1, 0), (99,)):
                for steps in ([], [(0, 1)], [()]):
                    for ask in OF_STEPS:
                        with self.subTest(why, ask=ask.__name__, some=some), self.assertRaises(BadWeb):
                            ask(web, some, steps)

    def test_every_small_web_takes_just_the_steps_that_may_be_done(self):
        for web in small_webs(3):
            for some in sets_of(web[0]):
                for first in range(web[0] + 1):
                    for second in range(web[0] + 1):
                        self.take_or_refuse(web, some, (first, second))

    def take_or_refuse(self, web, some, step):
        if step in plain_steps(web, some):
            self.assertEqual(gone(web, some, [step]), tuple(sorted(some + step[1:])))
        else:
            self.assertRaises(BadSteps, gone, web, some, [step])


if __name__ == "__main__":
    unittest.main()
