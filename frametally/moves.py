"""Moving the cells of frames, and the owners of frames and of swap blocks."""

from frametally.kernel import Doing
from frametally.memory import CELLS
from frametally.tables import block_of, frame_of


def reads_of(sizes, frame):
    """The accesses that read the cells of the frame."""
    return [("read", sizes.frame_cell(frame, index)) for index in range(CELLS)]


def writes_of(sizes, frame, values):
    """The accesses that give the cells of the frame these values."""
    return [("write", sizes.frame_cell(frame, index), value) for index, value in enumerate(values)]


def values_of(results):
    """The values that accesses have read, from the list of their pairs (result, number)."""
    return tuple([value for value, _ in results])


def word_write(kernel, pair, word):
    """The access that writes the table word of the pair."""
    return ("write", kernel.word_cell(pair), word)


def own(kernel, pair, word):
    """Makes the pair an owner of the frame or the swap block that the table word names."""
    if block_of(word) is None:
        kernel.frames.add(frame_of(word), pair)
    else:
        kernel.blocks.add(block_of(word), pair)


def disown(kernel, pair):
    """Takes the pair from the frame or the swap block of which it is an owner, if there is one."""
    for owners in (kernel.frames, kernel.blocks):
        number = owners.place_of(pair)
        if number is not None:
            owners.remove(number, pair)


class Saving:
    """Writes the pair of the values of a frame's cells to a block. Ends with the pair."""

    def __init__(self, sizes, frame, place):
        self._block_cell = place
        self._values = None
        self._wanted = ("call", Doing(reads_of(sizes, frame)))

    def request(self):
        """The reading, then the writing, then the end."""
        return self._wanted

    def accept(self, result):
        """Goes on behind the reading, and behind the writing."""
        if self._values is None:
            self._values = values_of(result)
            self._wanted = ("write", self._block_cell, self._values)
        else:
            self._wanted = ("end", self._values)


class Owning:
    """Makes pages owners, and writes their table words. Ends with the last word, or None if there is none."""

    def __init__(self, kernel, rows):
        self._kernel = kernel
        # Tuples (pair, word). The first pair is an owner already, and its word is the next one to write.
        self._rows = list(rows)
        self._last = None
        self._own_first()

    def request(self):
        """The next word, or the end."""
        if len(self._rows) == 0:
            return ("end", self._last)
        pair, word = self._rows[0]
        return word_write(self._kernel, pair, word)

    def accept(self, result):
        """Goes on behind a word."""
        _, self._last = self._rows.pop(0)
        self._own_first()

    def _own_first(self):
        if len(self._rows) > 0:
            pair, word = self._rows[0]
            own(self._kernel, pair, word)


class InTurn:
    """Runs machines one behind the other. Ends with the list of their values."""

    def __init__(self, machines):
        self._machines = list(machines)
        self._values = []

    def request(self):
        """The next machine, or the end."""
        if len(self._values) < len(self._machines):
            return ("call", self._machines[len(self._values)])
        return ("end", list(self._values))

    def accept(self, result):
        """Keeps the value of a machine."""
        self._values.append(result)
