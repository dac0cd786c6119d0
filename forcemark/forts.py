"""Forts: sets of spots that bar all marks from outside."""

from forcemark.marking import closure_from
from forcemark.webs import all_spots, look_set, look_web, near_lists, sets_within, spots_outside


def fort_from(near, some):
    for spot in spots_outside(near, some):
        if len([other for other in near[spot] if other in some]) == 1:
            return False
    return len(some) > 0


def lies_within(inner, outer):
    return all([spot in outer for spot in inner])


def lies_apart(one, other):
    return not any([spot in other for spot in one])


# A fort within which another one lies comes behind that one, since it has
# more spots; so it is enough to look at those found so far.
def forts_from(near):
    found = []
    for size in range(1, len(near) + 1):
        for some in sets_within(all_spots(near), size):
            if fort_from(near, some) and not any([lies_within(fort, some) for fort in found]):
                found.append(some)
    return found


def first_fort_within(near, pool):
    for size in range(1, len(pool) + 1):
        for some in sets_within(pool, size):
            if fort_from(near, some):
                return some
    return None


def left_over_from(near, some):
    return spots_outside(near, closure_from(near, some))


def is_fort(web, some):
    look_set(web, some)
    return fort_from(near_lists(web), some)


def left_over(web, some):
    look_set(web, some)
    return left_over_from(near_lists(web), some)


def least_fort(web, some):
    look_set(web, some)
    near = near_lists(web)
    return first_fort_within(near, left_over_from(near, some))


def forts(web):
    look_web(web)
    return forts_from(near_lists(web))
