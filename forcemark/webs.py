"""Webs of spots and lines, and sets of their spots."""

from forcemark.errors import BadSet, BadWeb

MOST_SPOTS = 10


def rises(things):
    return all([things[k] < things[k + 1] for k in range(len(things) - 1)])


def is_set(count, some):
    return rises(some) and all([0 <= spot < count for spot in some])


# A line has its lesser spot first and never the same spot twice,
# so it is just a set of two spots.
def is_line(count, line):
    return len(line) == 2 and is_set(count, line)


def look_web(web):
    if len(web) != 2:
        raise BadWeb("a web is a pair of a number of spots and a list of lines")
    count = web[0]
    lines = web[1]
    if not 0 <= count <= MOST_SPOTS:
        raise BadWeb("a web has 0 to 10 spots")
    if not all([is_line(count, line) for line in lines]):
        raise BadWeb("a line is a pair of two spots of the web, the lesser first")
    if not rises(lines):
        raise BadWeb("lines rise, and none stands twice")


def look_set(web, some):
    look_web(web)
    if not is_set(web[0], some):
        raise BadSet("a set is a tuple of spots of the web, rising")


# Lists of neighbours are walked far more often than webs are handed in,
# so they are made once for each web.
def near_lists(web):
    near = [[] for spot in range(web[0])]
    for line in web[1]:
        near[line[0]].append(line[1])
        near[line[1]].append(line[0])
    return near


def all_spots(near):
    return tuple(range(len(near)))


def with_more(some, more):
    return tuple(sorted(set(some) | set(more)))


def spots_outside(near, some):
    return tuple([spot for spot in all_spots(near) if spot not in some])


# The sets are ordered as tuples are: each is made longer in place of
# itself, by greater spots alone.
def sets_within(pool, size):
    found = [()]
    for turn in range(size):
        longer = []
        for some in found:
            longer.extend([some + (spot,) for spot in pool if not some or spot > some[-1]])
        found = longer
    return found
