"""Steps, what is marked by them in the end, and the chains in which it is."""

from forcemark.errors import BadSteps
from forcemark.webs import look_set, near_lists, with_more


# This runs once for each step and each round, so what is handed in is
# looked at by those who call it, once. The list rises without sorting:
# the marked spots do, and none of them has more than one step.
def steps_from(near, marked):
    steps = []
    for spot in marked:
        bare = [other for other in near[spot] if other not in marked]
        if len(bare) == 1:
            steps.append((spot, bare[0]))
    return steps


# Two steps done at once may mark the same spot, which then counts once.
def marked_behind(marked, steps):
    return with_more(marked, [step[1] for step in steps])


def rounds_from(near, some):
    found = [some]
    steps = steps_from(near, some)
    while steps:
        found.append(marked_behind(found[-1], steps))
        steps = steps_from(near, found[-1])
    return found


# The turn of the steps doesn't matter for what is marked in the end,
# so the last round tells it.
def closure_from(near, some):
    return rounds_from(near, some)[-1]


def marks_all_from(near, some):
    return len(closure_from(near, some)) == len(near)


def steps_at(web, some):
    look_set(web, some)
    return steps_from(near_lists(web), some)


def rounds(web, some):
    look_set(web, some)
    return rounds_from(near_lists(web), some)


def closure(web, some):
    look_set(web, some)
    return closure_from(near_lists(web), some)


def marks_all(web, some):
    look_set(web, some)
    return marks_all_from(near_lists(web), some)


def gone(web, some, steps):
    look_set(web, some)
    near = near_lists(web)
    marked = some
    for step in steps:
        if step not in steps_from(near, marked):
            raise BadSteps("a step may not be done when its turn comes")
        marked = marked_behind(marked, [step])
    return marked


def all_steps(web, some):
    look_set(web, some)
    near = near_lists(web)
    done = []
    marked = some
    steps = steps_from(near, marked)
    while steps:
        done.append(steps[0])
        marked = marked_behind(marked, [steps[0]])
        steps = steps_from(near, marked)
    return done


# One walk is enough: a spot marks another only behind the step by which
# it was marked itself.
def chain_from(spot, steps):
    chain = [spot]
    for step in steps:
        if step[0] == chain[-1]:
            chain.append(step[1])
    return chain


# Going the steps here is for the refusal alone.
def chains(web, some, steps):
    gone(web, some, steps)
    return [chain_from(spot, steps) for spot in some]


def turned(web, some, steps):
    if len(gone(web, some, steps)) != web[0]:
        raise BadSteps("not all spots are marked behind the steps")
    ends = tuple(sorted([chain_from(spot, steps)[-1] for spot in some]))
    back = [(step[1], step[0]) for step in reversed(steps)]
    return (ends, back)
