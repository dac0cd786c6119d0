"""With how few marks all can be marked, how quickly, and trees of cases that fewer never do."""

from forcemark.errors import BadSet, BadTree
from forcemark.forts import fort_from, forts_from, left_over_from, lies_apart
from forcemark.marking import closure_from, marks_all_from, rounds_from
from forcemark.webs import all_spots, is_set, look_set, look_web, near_lists, sets_within, with_more

MOST_TREES_WITHIN = 10


def look_size(web, size):
    look_web(web)
    if not 0 <= size <= web[0]:
        raise BadSet("no set of the web's spots has this size")


def beginnings_from(near, size):
    return [some for some in sets_within(all_spots(near), size) if marks_all_from(near, some)]


# Spots that are marked in the end anyway are of no use, so only those that
# are left over are tried; all of these together always do.
def first_help(near, some):
    bare = left_over_from(near, some)
    for size in range(len(bare)):
        for more in sets_within(bare, size):
            if marks_all_from(near, with_more(some, more)):
                return more
    return bare


def beginnings(web, size):
    look_size(web, size)
    return beginnings_from(near_lists(web), size)


def fewest(web):
    look_web(web)
    return first_help(near_lists(web), ())


# The list of rounds begins with the set itself, for which no step is done.
def quickest(web, size):
    look_size(web, size)
    near = near_lists(web)
    best = None
    for some in beginnings_from(near, size):
        count = len(rounds_from(near, some)) - 1
        if best is None or count < best[0]:
            best = (count, some)
    return best


def most_failing(web):
    look_web(web)
    near = near_lists(web)
    for size in range(web[0], -1, -1):
        for some in sets_within(all_spots(near), size):
            if not marks_all_from(near, some):
                return some
    return None


def stuck(web, some):
    look_set(web, some)
    near = near_lists(web)
    return (left_over_from(near, some), first_help(near, some))


def first_apart(barring, marked):
    for fort in barring:
        if lies_apart(fort, marked):
            return fort
    return None


# All that is marked in the end is left out of the forts, not the set alone:
# then there is no fort any more just if all is marked.
def tree_from(near, barring, some, more):
    marked = closure_from(near, some)
    fort = first_apart(barring, marked)
    if fort is None:
        return None
    if more == 0:
        return (fort, ())
    trees = []
    for spot in fort:
        tree = tree_from(near, barring, with_more(marked, (spot,)), more - 1)
        if tree is None:
            return None
        trees.append(tree)
    return (fort, tuple(trees))


# No tree shows anything of a number below 0.
def cases(web, some, more):
    look_set(web, some)
    if more < 0:
        return None
    near = near_lists(web)
    return tree_from(near, forts_from(near), some, more)


def told(web, size):
    look_size(web, size)
    near = near_lists(web)
    found = beginnings_from(near, size)
    if found:
        return ("marks", found[0])
    return ("tree", tree_from(near, forts_from(near), (), size))


# What is too deep is refused ahead of going deeper, so that a tree of any
# depth is refused the same way.
def look_tree(tree, depth):
    if depth > MOST_TREES_WITHIN:
        raise BadTree("more than 10 trees stand within one another beneath the whole one")
    if len(tree) != 2:
        raise BadTree("a tree is a pair of a fort and a tuple of trees")
    if len(tree[1]) != 0 and len(tree[1]) != len(tree[0]):
        raise BadTree("there are no trees or one for each spot of the fort")
    for part in tree[1]:
        look_tree(part, depth + 1)


def bars(near, some, fort):
    return is_set(len(near), fort) and fort_from(near, fort) and lies_apart(fort, some)


def shows_from(near, some, more, tree):
    fort = tree[0]
    trees = tree[1]
    if more < 0 or not bars(near, some, fort):
        return False
    if more == 0:
        return True
    if not trees:
        return False
    for k in range(len(fort)):
        if not shows_from(near, with_more(some, (fort[k],)), more - 1, trees[k]):
            return False
    return True


# The whole tree is looked at first: a tree that is none is refused even
# where its faulty part would not matter.
def shows(web, some, more, tree):
    look_set(web, some)
    look_tree(tree, 0)
    return shows_from(near_lists(web), some, more, tree)
