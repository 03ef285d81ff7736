"""What can be handed in: each check refuses what can't be and tells nothing else."""

from sinkstack.errors import BadCount, BadPair, BadPlan, BadSign, BadStack, BadSteps, BadTriple, BadWork

SIGNS = "abcd"
POP_STEP = "-"
MOST_ROOM = 9
MOST_PRICE = 99
MOST_TIMES = 10 ** 18
MOST_WORKS = 60
MOST_DEEP = 8


def signs_of(plan):
    """The signs of a plan, as one text."""
    return SIGNS[:plan[1]]


def is_number(value, low, high):
    """Whether value is a whole number from low to high."""
    # True and False are integers to Python, but no numbers here.
    return isinstance(value, int) and not isinstance(value, bool) and low <= value <= high


def is_text_of(value, signs):
    """Whether value is a text of these signs."""
    return isinstance(value, str) and all([sign in signs for sign in value])


def check_plan(plan):
    """Refuse what is no plan."""
    if not isinstance(plan, tuple) or len(plan) != 4:
        raise BadPlan(-1)
    room, many, prices, pop_price = plan
    if not is_number(room, 1, MOST_ROOM):
        raise BadPlan(0)
    if not is_number(many, 1, len(SIGNS)):
        raise BadPlan(1)
    if not are_prices(prices, many):
        raise BadPlan(2)
    if not is_number(pop_price, 1, MOST_PRICE):
        raise BadPlan(3)


def are_prices(prices, many):
    """Whether prices is a tuple of so many prices."""
    if not isinstance(prices, tuple) or len(prices) != many:
        return False
    return all([is_number(price, 1, MOST_PRICE) for price in prices])


def check_stack(plan, stack):
    """Refuse what is no stack of the plan."""
    if not is_stack(plan, stack):
        raise BadStack("no stack of this plan")


def is_stack(plan, stack):
    """Whether stack is one of the plan."""
    return is_text_of(stack, signs_of(plan)) and len(stack) <= plan[0]


def check_pairs(plan, pairs):
    """Refuse what is no list of pairs of stacks of the plan."""
    if not isinstance(pairs, list):
        raise BadPair(0)
    for number, pair in enumerate(pairs):
        if not is_pair(plan, pair):
            raise BadPair(number)


def is_pair(plan, pair):
    """Whether pair is one of two stacks of the plan."""
    if not isinstance(pair, tuple) or len(pair) != 2:
        return False
    return is_stack(plan, pair[0]) and is_stack(plan, pair[1])


def check_sign(plan, sign):
    """Refuse what is no sign of the plan."""
    # In a text, longer texts and the empty one would be found, too.
    if sign not in list(signs_of(plan)):
        raise BadSign("no sign of this plan")


def check_steps(plan, steps):
    """Refuse what are no steps of the plan."""
    if not is_text_of(steps, signs_of(plan) + POP_STEP):
        raise BadSteps("no steps of this plan")


def check_times(many):
    """Refuse what can't be how often a thing is done."""
    if not is_number(many, 0, MOST_TIMES):
        raise BadCount("no count from 0 to 10 ** 18")


def check_triple(plan, triple):
    """Refuse what is no triple of the plan."""
    if not is_triple(plan, triple):
        raise BadTriple("no triple of this plan")


def is_triple(plan, triple):
    """Whether triple is one of the plan."""
    if not isinstance(triple, tuple) or len(triple) != 3:
        return False
    room = plan[0]
    gone, kept, laid = triple
    if not is_number(gone, 0, room) or not is_number(kept, 0, room):
        return False
    if not is_text_of(laid, signs_of(plan)):
        return False
    if kept == 0 and gone != 0:
        return False
    return gone + kept <= room and len(laid) + kept <= room


def check_work(plan, work):
    """Refuse what is no work of the plan."""
    signs = list(signs_of(plan))
    # The next work stands last, so that works come each ahead of those within it.
    waiting = [(work, 1)]
    number = 0
    while waiting:
        found, deep = waiting.pop()
        if number == MOST_WORKS or deep > MOST_DEEP or not is_work_alone(found, signs):
            raise BadWork(number)
        number += 1
        for inner in reversed(works_within(found)):
            waiting.append((inner, deep + 1))


def is_work_alone(work, signs):
    """Whether work can be, whatever the works within it are."""
    if not isinstance(work, tuple) or len(work) == 0:
        return False
    if work[0] == "push":
        return len(work) == 2 and work[1] in signs
    if work[0] == "pop":
        return len(work) == 1
    if work[0] == "row":
        return len(work) == 2 and isinstance(work[1], tuple)
    if work[0] == "times":
        return len(work) == 3 and is_number(work[1], 0, MOST_TIMES)
    return False


def works_within(work):
    """The works directly within a work, in turn."""
    if work[0] == "row":
        return work[1]
    if work[0] == "times":
        return (work[2],)
    return ()
