"""The stacks of machines, which make the accesses of the processors."""

from frametally.letters import is_tuple_of


def asks_for(request, name):
    """True if the request is the tuple (name, what is named)."""
    return is_tuple_of(request, 2) and request[0] == name


class Stack:
    """The machines of one processor, the topmost one at the end."""

    def __init__(self, machine):
        self._machines = [machine]
        self._value = None

    def step(self, memory, processor):
        """Makes one step. Returns True if an access was made, otherwise False."""
        request = self._settled()
        if self.ended():
            return False
        outcome = memory.access(processor, request)
        self._machines[-1].accept(outcome)
        # What is requested now is not kept: what it depends on may change before the next step.
        self._settled()
        return True

    def ended(self):
        """True if the stack is empty."""
        return len(self._machines) == 0

    def value(self):
        """The value with which the first machine ended, or None if it has not."""
        return self._value

    def _settled(self):
        """Does calls and ends, and returns the access that is requested behind them, if there is one."""
        while not self.ended():
            request = self._machines[-1].request()
            if asks_for(request, "call"):
                self._machines.append(request[1])
            elif asks_for(request, "end"):
                self._end(request[1])
            else:
                return request
        return None

    def _end(self, value):
        """Removes the topmost machine, which ended with this value."""
        self._machines.pop()
        if self.ended():
            self._value = value
        else:
            self._machines[-1].accept(value)
