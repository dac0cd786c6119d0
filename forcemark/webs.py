"""Webs of spots and lines, and sets of their spots."""

from forcemark.errors import BadSet, BadWeb

MOST_SPOTS = 10


def rises(things):
    return all([things[k] < things[k + 1] for k in range(len(things) - 1)])


def is_set(count, some):
    return rises(some) and all([0 <= spot < count for spot in some])


# A line has its lesser spot first and never the same spot twice,
# so it is just a set of two spots.
def is_line(count, line):
    return len(line) == 2 and is_set(count, line)


def look_web(web):
    if len(web) != 2:
        raise BadWeb("a web is a pair of a number of spots and a list of lines")
    count = web[0]
    lines = web[1]
    if not 0 <= count <= MOST_SPOTS:
        raise BadWeb("a web has 0 to 10 spots")
    if not all([is_line(count, line) for line in lines]):
        raise BadWeb("a line is a pair of two spots of the web, the lesser first")
    if not rises(lines):
        raise BadWeb("lines rise, and none stands twice")


def look_set(web, some):
    look_web(web)
    if not is_set(web[0], some):
        raise BadSet("a set is a tuple of spots of the web, rising")


def neighbours(web, spot):
    found = []
    for line in web[1]:
        if line[0] == spot:
            found.append(line[1])
        if line[1] == spot:
            found.append(line[0])
    return found
