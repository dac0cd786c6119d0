"""The document's words once more, each gone through in full, in another way than the program's."""

import itertools

from samples import sets_of


def near_sets(web):
    return [{b for a, b in web[1] if a == k} | {a for a, b in web[1] if b == k} for k in range(web[0])]


def plain_steps(web, some):
    near = near_sets(web)
    return [(a, b) for a in range(web[0]) for b in range(web[0]) if a in some and near[a] - set(some) == {b}]


def plain_rounds(web, some):
    told = [some]
    while plain_steps(web, told[-1]):
        more = {b for a, b in plain_steps(web, told[-1])}
        told.append(tuple(sorted(more.union(told[-1]))))
    return told


def plain_end(web, some):
    return plain_rounds(web, some)[-1]


def plain_marking(web):
    """All sets that mark all."""
    return [some for some in sets_of(web[0]) if len(plain_end(web, some)) == web[0]]


def plain_is_fort(web, some):
    if list(some) != sorted(set(some) & set(range(web[0]))) or not some:
        return False
    near = near_sets(web)
    return all(len(near[k] & set(some)) != 1 for k in set(range(web[0])) - set(some))


def plain_all_forts(web):
    """All forts, also those within which others lie; those of fewer spots first."""
    return [some for some in sets_of(web[0]) if plain_is_fort(web, some)]


def plain_may_mark(web, some, more):
    """Whether the set, with some sets of so many spots more, marks all."""
    bare = [k for k in range(web[0]) if k not in some]
    return any(
        len(plain_end(web, tuple(sorted(some + extra)))) == web[0]
        for extra in itertools.combinations(bare, max(0, min(more, len(bare))))
    )


def plain_is_tree(tree, deep=10):
    if deep < 0 or len(tree) != 2 or len(tree[1]) not in (0, len(tree[0])):
        return False
    return all(plain_is_tree(part, deep - 1) for part in tree[1])


def plain_shows(web, some, more, tree):
    fort, trees = tree
    if not plain_is_fort(web, fort) or set(fort) & set(some) or more < 0:
        return False
    if more == 0:
        return True
    return len(trees) == len(fort) and all(
        plain_shows(web, some + (spot,), more - 1, part) for spot, part in zip(fort, trees)
    )
