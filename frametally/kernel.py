"""The kernel, which the holder of the lock alone looks at, and the machines for the lock and for letters."""

from frametally.frames import Hand, Owners
from frametally.letters import SPACES


def file_owner(owners):
    """The owner ("file", file, page) among the owners of a frame, or None."""
    for owner in owners:
        if owner[0] == "file":
            return owner
    return None


class Kernel:
    """Which spaces exist, their areas, the owners of frames and blocks, the hand and the last ticket."""

    def __init__(self, memory):
        self.memory = memory
        self.sizes = memory.sizes
        self.spaces = {0: []}
        self.frames = Owners(memory.sizes.frames)
        self.blocks = Owners(memory.sizes.blocks)
        self.hand = Hand(memory.sizes.frames)
        self.ticket = 0

    def cached(self, file, page):
        """The frame that caches the page of the file, or None."""
        return self.frames.place_of(("file", file, page))

    def new_space(self):
        """The least number of a space that does not exist, or None."""
        for space in range(SPACES):
            if space not in self.spaces:
                return space
        return None

    def next_ticket(self):
        """Takes the next ticket and returns it."""
        self.ticket += 1
        return self.ticket

    def is_private(self, frame):
        """True if the frame has owners and caches nothing."""
        owners = self.frames.owners(frame)
        return len(owners) > 0 and file_owner(owners) is None

    def word_cell(self, pair):
        """The cell of the table word of a pair (space, page)."""
        space, page = pair
        return self.sizes.word(space, page)


class Locking:
    """Takes the lock. Ends with the number of the access that did."""

    def __init__(self, kernel, processor):
        self._attempt = ("swap", kernel.sizes.lock(), 0, processor + 1)
        self._number = None

    def request(self):
        """The next try, or the end."""
        if self._number is None:
            return self._attempt
        return ("end", self._number)

    def accept(self, result):
        """Looks whether the lock was free."""
        taken, number = result
        if taken:
            self._number = number


class Unlocking:
    """Gives the lock back. Ends with the number of the access."""

    def __init__(self, kernel):
        self._giving = ("write", kernel.sizes.lock(), 0)
        self._number = None

    def request(self):
        """The writing, or the end."""
        if self._number is None:
            return self._giving
        return ("end", self._number)

    def accept(self, result):
        """Keeps the number of the writing."""
        _, number = result
        self._number = number


class Invalidating:
    """Makes all processors drop the entries for pairs. Ends with the number of its last access, or None."""

    def __init__(self, kernel, processor, pairs):
        self._sizes = kernel.sizes
        self._others = []
        self._letter = None
        self._sent = 0
        self._answered = 0
        self._number = None
        if len(pairs) > 0:
            kernel.memory.buffers[processor].drop(pairs)
            self._letter = (kernel.next_ticket(), tuple(pairs))
            self._others = [other for other in range(kernel.sizes.processors) if other != processor]

    def request(self):
        """The next letter; then the next look at an acknowledge word; then the end."""
        if self._sent < len(self._others):
            return ("send", self._others[self._sent], self._letter)
        if self._answered < len(self._others):
            return ("read", self._sizes.acknowledge(self._others[self._answered]))
        return ("end", self._number)

    def accept(self, result):
        """Goes on behind a letter, and behind an acknowledge word that is the ticket."""
        value, number = result
        self._number = number
        if self._sent < len(self._others):
            self._sent += 1
        elif value == self._letter[0]:
            self._answered += 1


class Doing:
    """Makes the accesses of a list. Ends with the list of the pairs (result, number)."""

    def __init__(self, requests):
        self._requests = list(requests)
        self._results = []

    def request(self):
        """The next access, or the end."""
        if len(self._results) < len(self._requests):
            return self._requests[len(self._results)]
        return ("end", list(self._results))

    def accept(self, result):
        """Keeps the result of the access."""
        self._results.append(result)
