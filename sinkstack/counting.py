"""All triples by their numbers, as triples rise."""

from sinkstack.befores import cuts, how_many_laying, how_many_triples
from sinkstack.checks import SIGNS, check_plan, check_triple, is_number
from sinkstack.errors import BadCount


def triple_at(plan, number):
    """The triple with a number, from 0."""
    check_plan(plan)
    if not is_number(number, 0, how_many_triples(plan) - 1):
        raise BadCount("no number of a triple of this plan")
    left = number
    size = 0
    while left >= how_many_laying(plan, size):
        left = left - how_many_laying(plan, size)
        size += 1
    choices = cuts(plan, size)
    gone, kept = choices[left % len(choices)]
    return (gone, kept, laid_at(plan, size, left // len(choices)))


def number_of(plan, triple):
    """The number of a triple, from 0."""
    check_plan(plan)
    check_triple(plan, triple)
    gone, kept, laid = triple
    ahead = sum([how_many_laying(plan, size) for size in range(len(laid))])
    choices = cuts(plan, len(laid))
    return ahead + number_of_laid(plan, laid) * len(choices) + choices.index((gone, kept))


def laid_at(plan, size, number):
    """The text with this number among all of its size, as texts rise."""
    many = plan[1]
    laid = ""
    left = number
    for _ in range(size):
        laid = SIGNS[left % many] + laid
        left = left // many
    return laid


def number_of_laid(plan, laid):
    """The number of a text among all of its size, as texts rise."""
    number = 0
    for sign in laid:
        number = number * plan[1] + SIGNS.index(sign)
    return number
