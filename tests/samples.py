"""Webs and sets that are to be refused, with why; and some good webs."""

import itertools
import random

# The greatest and the least whole number of 15 figures.
FAR = 999999999999999
FAR_BELOW = -999999999999999

BAD_WEBS = (
    ("fewer than 0 spots", (-1, [])),
    ("far fewer than 0 spots", (FAR_BELOW, [])),
    ("more than 10 spots", (11, [])),
    ("far more than 10 spots", (FAR, [])),
    ("more than 10 spots, with lines", (11, [(0, 1)])),
    ("lines that don't rise in the first spot", (4, [(1, 2), (0, 3)])),
    ("lines that don't rise in the second spot", (4, [(0, 2), (0, 1)])),
    ("the last two lines don't rise", (4, [(0, 1), (2, 3), (1, 2)])),
    ("the first two lines don't rise", (4, [(0, 2), (0, 1), (2, 3)])),
    ("a line twice in a row", (3, [(0, 1), (0, 1)])),
    ("a line twice, not in a row", (3, [(0, 1), (0, 2), (0, 1)])),
    ("the greater spot first", (3, [(1, 0)])),
    ("the greater spot first in the last line", (3, [(0, 1), (2, 1)])),
    ("a line both ways about", (3, [(0, 1), (1, 0)])),
    ("the same spot twice", (3, [(1, 1)])),
    ("the greater spot is not there", (3, [(0, 3)])),
    ("no spots but a line", (0, [(0, 1)])),
    ("one spot but a line", (1, [(0, 1)])),
    ("ten spots, a line to the eleventh", (10, [(0, 10)])),
    ("a spot far off", (3, [(0, FAR)])),
    ("a spot below 0", (3, [(-1, 2)])),
    ("a spot far below 0", (3, [(FAR_BELOW, 2)])),
    ("an empty line", (3, [()])),
    ("a line of one spot", (3, [(0,)])),
    ("a line of three spots", (3, [(0, 1, 2)])),
    ("a line of three spots behind a good one", (3, [(0, 1), (0, 1, 2)])),
)

# Each of these is no set of WEB_OF_THREE.
WEB_OF_THREE = (3, [(0, 1), (1, 2)])
BAD_SETS = (
    ("a spot that is not there", (3,)),
    ("a good spot and one that is not there", (0, 3)),
    ("a spot far off", (FAR,)),
    ("a spot below 0", (-1,)),
    ("a spot below 0 and a good one", (-1, 0)),
    ("a spot far below 0", (FAR_BELOW,)),
    ("the same spot twice", (1, 1)),
    ("not rising", (1, 0)),
    ("not rising at the end", (0, 2, 1)),
    ("not rising at the beginning", (1, 0, 2)),
    ("more than all spots", (0, 1, 2, 3)),
    ("all spots, one twice", (0, 1, 2, 2)),
)


def path(count):
    return (count, [(k, k + 1) for k in range(count - 1)])


def ring(count):
    return (count, sorted([(k, k + 1) for k in range(count - 1)] + [(0, count - 1)]))


def full(count):
    return (count, list(itertools.combinations(range(count), 2)))


def star(count):
    return (count, [(0, k) for k in range(1, count)])


def sets_of(count):
    return [some for size in range(count + 1) for some in itertools.combinations(range(count), size)]


def small_webs(most):
    for count in range(most + 1):
        pairs = list(itertools.combinations(range(count), 2))
        for size in range(len(pairs) + 1):
            for lines in itertools.combinations(pairs, size):
                yield (count, list(lines))


# The ten spots of a ring within a ring, each with three neighbours.
TWO_RINGS = (10, sorted(
    [tuple(sorted((k, (k + 1) % 5))) for k in range(5)]
    + [(k, k + 5) for k in range(5)]
    + [tuple(sorted((k + 5, (k + 2) % 5 + 5))) for k in range(5)]
))


def mixed_webs(counts, many):
    """So many webs of each count of spots, from few lines to many, the same ones each time."""
    chance = random.Random(11)
    for count in counts:
        pairs = list(itertools.combinations(range(count), 2))
        for k in range(many):
            yield (count, [pair for pair in pairs if chance.random() * many < k + 1])


def trying_webs():
    """All webs of up to four spots, and some of each greater count below ten."""
    return list(small_webs(4)) + list(mixed_webs((5, 6, 7), 8)) + [path(7), ring(6), full(6), star(6), (5, [])]
