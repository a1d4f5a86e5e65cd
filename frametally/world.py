"""The world: processors that make calls to one memory, one access at a time, in any order."""

from frametally.calls import is_call, machine_of
from frametally.errors import NotValid
from frametally.kernel import Kernel
from frametally.letters import is_number_below
from frametally.machines import Stack
from frametally.memory import Memory, Sizes


def are_calls(calls, processors):
    """True if the value is a list with one list of calls for each processor."""
    if not isinstance(calls, list) or len(calls) != processors:
        return False
    return all([isinstance(row, list) and all([is_call(call) for call in row]) for row in calls])


class Course:
    """The calls of one processor, which it makes one behind the other."""

    def __init__(self, processor, calls):
        self._processor = processor
        self._calls = list(calls)
        # The rows of the calls that have ended.
        self._rows = []
        # The machine of the call that runs, its stack, and the number of its first access.
        self._machine = None
        self._stack = None
        self._first = None

    def idle(self):
        """True if all calls have ended."""
        return len(self._rows) == len(self._calls)

    def step(self, kernel):
        """Makes the next access, if the calls have not all ended."""
        if self.idle():
            return
        if self._stack is None:
            self._machine = machine_of(kernel, self._processor, self._calls[len(self._rows)])
            self._stack = Stack(self._machine)
            self._first = kernel.memory.count + 1
        self._stack.step(kernel.memory, self._processor)
        if self._stack.ended():
            answer, _ = self._stack.value()
            self._rows.append(self._row(answer, kernel.memory.count))
            self._stack = None

    def rows(self):
        """A new list of the rows of the calls that were begun."""
        if self._stack is None:
            return list(self._rows)
        return [*self._rows, self._row(None, None)]

    def _row(self, answer, last):
        """The row of the call that runs, or that ends with this answer at this access."""
        index = len(self._rows)
        return (self._processor, index, self._calls[index], answer, self._machine.witness, self._first, last)


class World:
    """A new memory and its kernel, and the calls of each processor."""

    def __init__(self, processors, frames, blocks, calls):
        sizes = Sizes(processors, frames, blocks)
        if not are_calls(calls, processors):
            raise NotValid()
        self.memory = Memory(sizes)
        self.kernel = Kernel(self.memory)
        self._courses = [Course(processor, row) for processor, row in enumerate(calls)]

    def play(self, picks):
        """Plays the picks, and returns how many accesses were made."""
        before = self.memory.count
        many = self.memory.sizes.processors
        for pick in picks:
            if is_number_below(pick, many):
                self._courses[pick].step(self.kernel)
            elif is_number_below(pick, 2 * many):
                self._take(pick - many)
        return self.memory.count - before

    def settle(self, rounds):
        """Plays rounds until all calls have ended, or as many as are given. Returns True if all calls have ended."""
        for _ in range(rounds):
            if self._all_idle():
                break
            for processor, course in enumerate(self._courses):
                while self._take(processor):
                    pass
                course.step(self.kernel)
        return self._all_idle()

    def idle(self, processor):
        """True if the processor has ended all its calls."""
        return self._courses[processor].idle()

    def history(self):
        """The rows of the calls that were begun, by processor and index."""
        rows = []
        for course in self._courses:
            rows.extend(course.rows())
        return rows

    def is_quiet(self):
        """True if nobody has the lock."""
        return self.memory.peek(self.memory.sizes.lock()) == 0

    def _take(self, processor):
        """Lets the processor take its first letter. Returns True if there was one."""
        if len(self.memory.boxes[processor].letters()) == 0:
            return False
        self.memory.access(processor, ("take",))
        return True

    def _all_idle(self):
        return all([course.idle() for course in self._courses])
