"""What works and steps cost, and the cheapest steps that do what a triple does."""

from sinkstack.checks import POP_STEP, SIGNS
from sinkstack.checks import check_plan, check_steps, check_triple, check_work
from sinkstack.triples import triple_of_steps


def cost(plan, work):
    """What all pushes and pops of a work cost."""
    check_plan(plan)
    check_work(plan, work)
    return price_of_work(plan, work)


def cheapest(plan, triple):
    """The least price of steps that do what a triple does, and such steps."""
    check_plan(plan)
    check_triple(plan, triple)
    way = cheapest_way(plan, triple)
    steps = steps_of_way(plan, way, triple[2])
    return (price_of_steps(plan, steps), steps)


def fewest(plan, triple):
    """How many steps the shortest steps have that do what a triple does."""
    check_plan(plan)
    check_triple(plan, triple)
    # Each filler is two steps, its push and its pop.
    return len(triple[2]) + min([popped + 2 * filled for popped, filled in ways(plan, triple)])


def judged(plan, triple, steps):
    """What steps cost that do what a triple does; None if they do not."""
    check_plan(plan)
    check_triple(plan, triple)
    check_steps(plan, steps)
    if triple_of_steps(plan, steps) != triple:
        return None
    return price_of_steps(plan, steps)


def fillers(plan, triple):
    """How many pushes are popped again within the cheapest steps that do what a triple does."""
    check_plan(plan)
    check_triple(plan, triple)
    return cheapest_way(plan, triple)[1]


def ways(plan, triple):
    """The pairs (popped, filled) by which a triple may be done cheapest or shortest.

    popped tells how many things of the stack are popped, filled how many pushes are popped again.
    """
    gone, kept, laid = triple
    room = plan[0]
    if kept > 0:
        return [(gone, room - kept - max(gone, len(laid)))]
    # Nothing is kept if as many as have room are laid and filled, or if all are popped.
    return [(0, room - len(laid)), (room, 0)]


def cheapest_way(plan, triple):
    """The cheapest of the ways of a triple, the first one if several are."""
    pop_price = plan[3]
    filler_price = min(plan[2]) + pop_price
    return min(ways(plan, triple), key=lambda way: way[0] * pop_price + way[1] * filler_price)


def steps_of_way(plan, way, laid):
    """The steps of a way (popped, filled) that lay these signs."""
    popped, filled = way
    filling = cheapest_sign(plan) * filled + POP_STEP * filled
    # Fillers press the lowest things out only where the stack is highest.
    if popped >= len(laid):
        return filling + POP_STEP * popped + laid
    return POP_STEP * popped + laid + filling


def cheapest_sign(plan):
    """The sign whose push is cheapest."""
    prices = plan[2]
    return SIGNS[prices.index(min(prices))]


def price_of_work(plan, work):
    """What a checked work costs."""
    if work[0] == "push":
        return price_of_step(plan, work[1])
    if work[0] == "pop":
        return price_of_step(plan, POP_STEP)
    if work[0] == "times":
        return work[1] * price_of_work(plan, work[2])
    return sum([price_of_work(plan, inner) for inner in work[1]])


def price_of_steps(plan, steps):
    """What checked steps cost."""
    return sum([price_of_step(plan, step) for step in steps])


def price_of_step(plan, step):
    """What one push or pop costs."""
    if step == POP_STEP:
        return plan[3]
    return plan[2][SIGNS.index(step)]
