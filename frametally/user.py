"""Loads, stores and changes of the cells of pages."""

from frametally.areas import area_of
from frametally.fault import Readying, may_write
from frametally.kernel import Locking, Unlocking
from frametally.tables import frame_of, is_writable


def answer_through(name, result):
    """The answer if the access of this name was made through an entry of the buffer; None if there was none."""
    if result is None or result is False:
        return None
    if name == "load":
        return ("ok", result[0])
    if name == "store":
        return ("ok", None)
    return ("ok", result == ("done",))


def access_of(call, cell):
    """The access by which the holder of the lock does what the call says to the cell."""
    name, _, _, _, *values = call
    if name == "load":
        return ("read", cell)
    if name == "store":
        return ("write", cell, *values)
    return ("swap", cell, *values)


class Using:
    """Makes a load, a store or a change. Ends with its answer and its witness."""

    def __init__(self, kernel, processor, call):
        self.witness = None
        self._kernel = kernel
        self._processor = processor
        self._call = call
        self._pair = (call[1], call[2])
        self._writing = call[0] != "load"
        self._answer = None
        self._try_entry()

    def request(self):
        """What is wanted next."""
        return self._wanted

    def accept(self, result):
        """Goes on with the result."""
        self._behind(result)

    def _try_entry(self):
        # The access by which a processor uses its buffer is the same tuple as the call.
        self._wanted = self._call
        self._behind = self._look_at_entry

    def _look_at_entry(self, result):
        found, number = result
        self._answer = answer_through(self._call[0], found)
        if self._answer is None:
            space, page = self._pair
            self._wanted = ("walk", space, page)
            self._behind = self._look_at_walk
        else:
            self.witness = number
            self._end(None)

    def _look_at_walk(self, result):
        word, _ = result
        if is_writable(word) or (frame_of(word) is not None and not self._writing):
            self._try_entry()
        else:
            self._wanted = ("call", Locking(self._kernel, self._processor))
            self._behind = self._read_word

    def _read_word(self, _):
        self._wanted = ("read", self._kernel.word_cell(self._pair))
        self._behind = self._make_ready

    def _make_ready(self, result):
        """Begins to make the page ready, unless it may not be used so."""
        word, number = result
        refusal = self._refusal()
        if refusal is None:
            self._wanted = ("call", Readying(self._kernel, self._processor, self._pair, self._writing, word))
            self._behind = self._use_frame
        else:
            self.witness = number
            self._give_back((refusal, None))

    def _refusal(self):
        """The word with which the call is refused, or None."""
        space, page = self._pair
        if space not in self._kernel.spaces:
            return "none"
        area = area_of(self._kernel.spaces[space], page)
        if area is None or (self._writing and not may_write(area)):
            return "fault"
        return None

    def _use_frame(self, frame):
        if frame is None:
            self._give_back(("full", None))
        else:
            self._wanted = access_of(self._call, self._kernel.sizes.frame_cell(frame, self._call[3]))
            self._behind = self._keep_result

    def _keep_result(self, result):
        value, self.witness = result
        self._give_back(("ok", value))

    def _give_back(self, answer):
        self._answer = answer
        self._wanted = ("call", Unlocking(self._kernel))
        self._behind = self._end

    def _end(self, _):
        self._wanted = ("end", (self._answer, self.witness))
