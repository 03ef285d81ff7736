"""A machine that does works to a stack and takes them back."""

from sinkstack.checks import POP_STEP, check_plan, check_sign, check_stack, check_work
from sinkstack.prices import price_of_step, price_of_work
from sinkstack.triples import join_triples, stack_behind, triple_of_step, triple_of_work, untouched


class Machine:
    """A stack, the deeds done to it, what they cost and what they do to all stacks."""

    def __init__(self, plan, stack):
        check_plan(plan)
        check_stack(plan, stack)
        self._plan = plan
        self._stack = stack
        self._spent = 0
        self._triple = untouched(plan)
        # What stood ahead of each deed that is not taken back, the last deed's last.
        self._past = []

    def do(self, work):
        """Do a work and tell the stack behind it."""
        check_work(self._plan, work)
        self._add_deed(triple_of_work(self._plan, work), price_of_work(self._plan, work))
        return self._stack

    def push(self, sign):
        """Push a sign and tell the thing that fell out, or None."""
        check_sign(self._plan, sign)
        before = self._stack
        self._add_step(sign)
        if len(before) == self._plan[0]:
            return before[0]
        return None

    def pop(self):
        """Pop and tell the thing that was on top, or None."""
        before = self._stack
        self._add_step(POP_STEP)
        if len(before) > 0:
            return before[-1]
        return None

    def back(self):
        """Take the last deed back that is not taken back; False if there is none."""
        if len(self._past) == 0:
            return False
        self._stack, self._spent, self._triple = self._past.pop()
        return True

    def stack(self):
        """The stack as it is now."""
        return self._stack

    def spent(self):
        """What all deeds cost that were not taken back."""
        return self._spent

    def triple(self):
        """What all deeds that were not taken back do to all stacks."""
        return self._triple

    def deeds(self):
        """How many deeds were not taken back."""
        return len(self._past)

    def _add_step(self, step):
        """Do one push or pop."""
        self._add_deed(triple_of_step(self._plan, step), price_of_step(self._plan, step))

    def _add_deed(self, triple, price):
        """Do what a triple does, as one deed at this price."""
        self._past.append((self._stack, self._spent, self._triple))
        self._stack = stack_behind(triple, self._stack)
        self._spent = self._spent + price
        self._triple = join_triples(self._triple, triple)
