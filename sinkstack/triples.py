"""What works do to all stacks, told in one triple (gone, kept, laid)."""

from sinkstack.checks import POP_STEP, SIGNS
from sinkstack.checks import check_plan, check_stack, check_steps, check_times, check_triple, check_work


def told(plan, work):
    """The triple of what a work does to all stacks."""
    check_plan(plan)
    check_work(plan, work)
    return triple_of_work(plan, work)


def told_of_steps(plan, steps):
    """The triple of what steps do to all stacks."""
    check_plan(plan)
    check_steps(plan, steps)
    return triple_of_steps(plan, steps)


def joined(plan, one, other):
    """The triple of two triples, one behind the other."""
    check_plan(plan)
    check_triple(plan, one)
    check_triple(plan, other)
    return join_triples(one, other)


def powered(plan, triple, many):
    """The triple of a triple done so often."""
    check_plan(plan)
    check_triple(plan, triple)
    check_times(many)
    return power_triple(plan, triple, many)


def done(plan, triple, stack):
    """The stack behind a triple."""
    check_plan(plan)
    check_triple(plan, triple)
    check_stack(plan, stack)
    return stack_behind(triple, stack)


def run(plan, work, stack):
    """The stack behind a work."""
    check_plan(plan)
    check_work(plan, work)
    check_stack(plan, stack)
    return stack_behind(triple_of_work(plan, work), stack)


def alike(plan, one, other):
    """Whether two works do the same to all stacks."""
    check_plan(plan)
    check_work(plan, one)
    check_work(plan, other)
    return triple_of_work(plan, one) == triple_of_work(plan, other)


def parting(plan, one, other):
    """The least stack that two works leave unlike, or None."""
    check_plan(plan)
    check_work(plan, one)
    check_work(plan, other)
    first = triple_of_work(plan, one)
    second = triple_of_work(plan, other)
    # Works that lay unlike things part on the empty stack. Others differ in how many things
    # stay of some stack, so its size alone parts them, and the lowest signs make it least.
    for size in range(plan[0] + 1):
        stack = SIGNS[0] * size
        if stack_behind(first, stack) != stack_behind(second, stack):
            return stack
    return None


def triple_of_work(plan, work):
    """The triple of a work that was checked."""
    if work[0] == "push":
        return triple_of_step(plan, work[1])
    if work[0] == "pop":
        return triple_of_step(plan, POP_STEP)
    if work[0] == "times":
        return power_triple(plan, triple_of_work(plan, work[2]), work[1])
    whole = untouched(plan)
    for inner in work[1]:
        whole = join_triples(whole, triple_of_work(plan, inner))
    return whole


def triple_of_steps(plan, steps):
    """The triple of steps that were checked."""
    whole = untouched(plan)
    for step in steps:
        whole = join_triples(whole, triple_of_step(plan, step))
    return whole


def triple_of_step(plan, step):
    """The triple of one push or pop."""
    if step == POP_STEP:
        return tidied(1, plan[0] - 1, "")
    return (0, plan[0] - 1, step)


def untouched(plan):
    """The triple that leaves each stack as it is."""
    return (0, plan[0], "")


def tidied(gone, kept, laid):
    """The triple of these three, gone being 0 where nothing is kept."""
    if kept == 0:
        return (0, 0, laid)
    return (gone, kept, laid)


def join_triples(one, other):
    """The triple of two checked triples, one behind the other."""
    gone, kept, laid = one
    next_gone, next_kept, next_laid = other
    # What the other takes away beyond what the one has laid comes from what the one kept.
    deeper = max(next_gone - len(laid), 0)
    left = without_top(laid, next_gone)
    still_kept = max(min(kept - deeper, next_kept - len(left)), 0)
    return tidied(gone + deeper, still_kept, top_of(left, next_kept) + next_laid)


def power_triple(plan, triple, many):
    """The triple of a checked triple done so often, by doubling."""
    whole = untouched(plan)
    doubled = triple
    left = many
    while left > 0:
        if left % 2 == 1:
            whole = join_triples(whole, doubled)
        doubled = join_triples(doubled, doubled)
        left = left // 2
    return whole


def stack_behind(triple, stack):
    """The stack that a checked triple makes of a checked stack."""
    gone, kept, laid = triple
    return top_of(without_top(stack, gone), kept) + laid


def without_top(stack, many):
    """A stack without so many top things, empty if there are fewer."""
    return stack[:max(len(stack) - many, 0)]


def top_of(stack, many):
    """So many top things of a stack, all if there are fewer."""
    return stack[max(len(stack) - many, 0):]
