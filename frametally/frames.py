"""Who leads to the frames and to the swap blocks, and the hand that looks for a frame to evict."""

from frametally.errors import NotValid
from frametally.letters import is_number_below


class Owners:
    """The owners of frames or of blocks, and which of these the holder has in its hands."""

    def __init__(self, many):
        self._owners = [[] for _ in range(many)]
        # What is in the hands has no owners.
        self._held = [False for _ in range(many)]

    def take(self):
        """Takes the least free one into the hands and returns it; None if there is none."""
        free = self.free()
        if len(free) == 0:
            return None
        self._held[free[0]] = True
        return free[0]

    def give_back(self, number):
        """Frees what was in the hands."""
        self._check(number)
        if not self._held[number]:
            raise NotValid()
        self._held[number] = False

    def add(self, number, owner):
        """Adds an owner to one that has owners or is in the hands."""
        self._check(number)
        if self._is_free(number) or self.place_of(owner) is not None:
            raise NotValid()
        self._owners[number].append(owner)
        self._held[number] = False

    def remove(self, number, owner):
        """Removes an owner."""
        self._check(number)
        if owner not in self._owners[number]:
            raise NotValid()
        self._owners[number].remove(owner)

    def hold(self, number):
        """Takes this free one into the hands."""
        self._check(number)
        if not self._is_free(number):
            raise NotValid()
        self._held[number] = True

    def owners(self, number):
        """A new list of the owners, in the order in which they were added."""
        self._check(number)
        return list(self._owners[number])

    def place_of(self, owner):
        """Where the owner is, or None."""
        for number, owners in enumerate(self._owners):
            if owner in owners:
                return number
        return None

    def free(self):
        """The list of those that are free, ascending."""
        return [number for number in range(len(self._owners)) if self._is_free(number)]

    def in_hands(self):
        """The list of those that are in the hands, ascending."""
        return [number for number, held in enumerate(self._held) if held]

    def _check(self, number):
        if not is_number_below(number, len(self._owners)):
            raise NotValid()

    def _is_free(self, number):
        return len(self._owners[number]) == 0 and not self._held[number]


class Hand:
    """The hand that goes round the frames."""

    def __init__(self, many):
        self._many = many
        self._frame = 0

    def victim(self, owners, passed_over):
        """Returns the frame to evict, and points behind it; None if there is none."""
        for distance in range(self._many):
            frame = (self._frame + distance) % self._many
            if len(owners.owners(frame)) > 0 and frame not in passed_over:
                self._frame = (frame + 1) % self._many
                return frame
        return None

    def points_to(self):
        """The frame to which the hand points."""
        return self._frame
