"""From which stacks one comes, which triples fit, and how many triples there are."""

from sinkstack.checks import SIGNS, check_pairs, check_plan, check_stack, check_triple
from sinkstack.triples import stack_behind


def befores(plan, triple, stack):
    """How many stacks become this stack by a triple, and the least of them, or None."""
    check_plan(plan)
    check_triple(plan, triple)
    check_stack(plan, stack)
    gone, kept, laid = triple
    if not stack.endswith(laid):
        return (0, None)
    stayed = stack[:len(stack) - len(laid)]
    if len(stayed) > kept:
        return (0, None)
    # Where nothing stayed, the empty stack comes here, too.
    least = stayed + SIGNS[0] * gone if stayed else ""
    return (how_many_left(plan, gone, kept, len(stayed)), least)


def fitting(plan, pairs):
    """How many triples lead each before to its after, and the first of them, or None."""
    check_plan(plan)
    check_pairs(plan, pairs)
    if len(pairs) == 0:
        return (how_many_triples(plan), (0, 0, ""))
    found = [triple for triple in triples_laying_end(plan, pairs[0][1]) if leads_all(triple, pairs)]
    if len(found) == 0:
        return (0, None)
    return (len(found), found[0])


def count(plan):
    """How many triples there are."""
    check_plan(plan)
    return how_many_triples(plan)


def how_many_left(plan, gone, kept, stayed):
    """Of how many stacks just one text of this size stays, when gone go and kept are kept."""
    room, many = plan[0], plan[1]
    if kept == 0:
        return texts_up_to(many, room)
    if stayed == 0:
        return texts_up_to(many, gone)
    if stayed < kept:
        return texts_of_size(many, gone)
    # Below what stayed, things may have stood that were not kept.
    return texts_of_size(many, gone) * texts_up_to(many, room - kept - gone)


def texts_of_size(many, size):
    """How many texts of this size so many signs make."""
    whole = 1
    for _ in range(size):
        whole = whole * many
    return whole


def texts_up_to(many, longest):
    """How many texts so many signs make, none longer than told."""
    return sum([texts_of_size(many, size) for size in range(longest + 1)])


def triples_laying_end(plan, stack):
    """The triples that lay an end of a stack, as triples rise."""
    return [(gone, kept, stack[len(stack) - size:])
            for size in range(len(stack) + 1) for gone, kept in cuts(plan, size)]


def leads_all(triple, pairs):
    """Whether a triple leads each before to its after."""
    for before, after in pairs:
        if stack_behind(triple, before) != after:
            return False
    return True


def how_many_triples(plan):
    """How many triples a checked plan has."""
    return sum([how_many_laying(plan, size) for size in range(plan[0] + 1)])


def how_many_laying(plan, size):
    """How many triples lay so many signs."""
    return texts_of_size(plan[1], size) * len(cuts(plan, size))


def cuts(plan, size):
    """The pairs (gone, kept) of triples that lay so many signs, as triples rise."""
    room = plan[0]
    return [(gone, kept) for gone in range(room + 1) for kept in range(room - max(gone, size) + 1)
            if kept > 0 or gone == 0]
