"""Plain models of the document's words, apart from the program: everything one by one."""

from heapq import heappop, heappush
from itertools import product

PLANS = [
    (1, 1, (5,), 3),
    (1, 3, (4, 2, 9), 7),
    (2, 2, (7, 3), 2),
    (2, 4, (1, 1, 1, 1), 1),
    (3, 1, (9,), 99),
    (3, 2, (1, 99), 50),
    (3, 3, (5, 4, 6), 1),
    (4, 2, (2, 2), 2),
]


def signs(plan):
    return "abcd"[:plan[1]]


def texts(letters, longest):
    """All texts of the letters, by size, then as texts rise."""
    return ["".join(text) for size in range(longest + 1) for text in product(letters, repeat=size)]


def stacks(plan):
    return texts(signs(plan), plan[0])


def stepped(plan, stack, step):
    if step == "-":
        return stack[:-1]
    pushed = stack + step
    return pushed[1:] if len(pushed) > plan[0] else pushed


def walked(plan, stack, steps):
    for step in steps:
        stack = stepped(plan, stack, step)
    return stack


def steps_of(work):
    """The steps of a work, one by one."""
    if work[0] == "push":
        return work[1]
    if work[0] == "pop":
        return "-"
    if work[0] == "row":
        return "".join(steps_of(inner) for inner in work[1])
    return steps_of(work[2]) * work[1]


def row_of(steps):
    """The work that is a row of these steps."""
    return ("row", tuple(("pop",) if step == "-" else ("push", step) for step in steps))


def price(plan, steps):
    return sum(plan[3] if step == "-" else plan[2]["abcd".index(step)] for step in steps)


def moved(triple, stack):
    """The stack behind a triple, thing by thing."""
    gone, kept, laid = triple
    things = list(stack)
    for _ in range(gone):
        if things:
            things.pop()
    while len(things) > kept:
        things.pop(0)
    return "".join(things) + laid


def triples(plan):
    """All triples of a plan."""
    room = plan[0]
    numbers = range(room + 1)
    return [(gone, kept, laid) for gone in numbers for kept in numbers for laid in texts(signs(plan), room)
            if gone + kept <= room and len(laid) + kept <= room and (kept > 0 or gone == 0)]


def rising(triple):
    """What triples rise by."""
    gone, kept, laid = triple
    return (len(laid), laid, gone, kept)


def laid_out(plan):
    """All triples of a plan, as triples rise."""
    return sorted(triples(plan), key=rising)


def table(plan, steps):
    """What steps make of all stacks, in turn."""
    return tuple(walked(plan, stack, steps) for stack in stacks(plan))


def triple_table(plan, triple):
    return tuple(moved(triple, stack) for stack in stacks(plan))


def least(plan, weight):
    """For each table that steps can do, the least weight of such steps.

    weight tells a tuple for a step, its first number above 0; weights are added item by item.
    """
    letters = signs(plan) + "-"
    nothing = tuple(0 for _ in weight("-"))
    found = {}
    queue = [(nothing, tuple(stacks(plan)))]
    while queue:
        heavy, state = heappop(queue)
        if state in found:
            continue
        found[state] = heavy
        for step in letters:
            behind = tuple(stepped(plan, stack, step) for stack in state)
            if behind not in found:
                heappush(queue, (tuple(x + y for x, y in zip(heavy, weight(step))), behind))
    return found
