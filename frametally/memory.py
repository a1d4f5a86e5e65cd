"""The cells, the buffers and the boxes, and the accesses that processors make to them."""

from frametally.buffers import Buffer
from frametally.errors import NotValid
from frametally.letters import PAGES, SPACES, Box, is_letter, is_number_below, is_whole

CELLS = 2
FILES = 2
FILE_PAGES = 4

# What stands behind the name of each access.
PARTS = {
    "read": ("cell",),
    "write": ("cell", "value"),
    "swap": ("cell", "value", "value"),
    "send": ("processor", "letter"),
    "take": (),
    "walk": ("space", "page"),
    "load": ("space", "page", "index"),
    "store": ("space", "page", "index", "value"),
    "change": ("space", "page", "index", "value", "value"),
}


def is_between(value, least, most):
    """True if the value is an integer from the least to the most."""
    return is_whole(value) and least <= value <= most


def is_value(value):
    """True if a cell can hold the value."""
    return value is None or is_whole(value) or isinstance(value, tuple)


class Sizes:
    """How many processors, frames and swap blocks there are, and which cell is which."""

    def __init__(self, processors, frames, blocks):
        if not is_between(processors, 1, 3) or not is_between(frames, 2, 12) or not is_between(blocks, 0, 12):
            raise NotValid()
        self.processors = processors
        self.frames = frames
        self.blocks = blocks
        # The first cell of each kind; each kind begins where the one before it ends.
        self._acknowledges = 1
        self._words = self._acknowledges + processors
        self._frame_cells = self._words + SPACES * PAGES
        self._swap_blocks = self._frame_cells + CELLS * frames
        self._file_blocks = self._swap_blocks + blocks

    def lock(self):
        """The cell of the lock."""
        return 0

    def acknowledge(self, processor):
        """The cell of the processor's acknowledge word."""
        return self._acknowledges + processor

    def word(self, space, page):
        """The cell of the page's table word."""
        return self._words + PAGES * space + page

    def frame_cell(self, frame, index):
        """The cell with this index of the frame."""
        return self._frame_cells + CELLS * frame + index

    def swap_block(self, block):
        """The cell of the swap block."""
        return self._swap_blocks + block

    def file_block(self, file, page):
        """The cell of the file's block for this page of it."""
        return self._file_blocks + FILE_PAGES * file + page

    def cells(self):
        """The number of all cells."""
        return self._file_blocks + FILES * FILE_PAGES


def first_values(sizes):
    """The values of the cells of a new memory."""
    lock_and_acknowledges = [0] * (1 + sizes.processors)
    words = [None] * (SPACES * PAGES)
    frames = [0] * (CELLS * sizes.frames)
    blocks = [(0, 0)] * (sizes.blocks + FILES * FILE_PAGES)
    return lock_and_acknowledges + words + frames + blocks


def bound_of(kind, sizes):
    """How many numbers of this kind exist."""
    if kind == "cell":
        return sizes.cells()
    if kind == "processor":
        return sizes.processors
    if kind == "space":
        return SPACES
    if kind == "page":
        return PAGES
    return CELLS


def is_part(part, kind, sizes):
    """True if this part of a request is of the kind that its place asks for."""
    if kind == "value":
        return is_value(part)
    if kind == "letter":
        return is_letter(part)
    return is_number_below(part, bound_of(kind, sizes))


def is_request(value, sizes):
    """True if the value asks for an access, with numbers that exist."""
    if not isinstance(value, tuple) or len(value) == 0 or not isinstance(value[0], str):
        return False
    kinds = PARTS.get(value[0])
    if kinds is None or len(value) != 1 + len(kinds):
        return False
    return all([is_part(part, kind, sizes) for part, kind in zip(value[1:], kinds)])


class Memory:
    """The cells, and a buffer and a box for each processor."""

    def __init__(self, sizes):
        self.sizes = sizes
        self.count = 0
        self.buffers = [Buffer() for _ in range(sizes.processors)]
        self.boxes = [Box() for _ in range(sizes.processors)]
        self._cells = first_values(sizes)
        self._log = []

    def access(self, processor, request):
        """Makes an access, and returns its result and its number."""
        if not is_number_below(processor, self.sizes.processors) or not is_request(request, self.sizes):
            raise NotValid()
        self.count += 1
        self._log.append((self.count, processor, request))
        return (self._result(processor, request), self.count)

    def peek(self, cell):
        """The value of the cell, without an access."""
        if not is_number_below(cell, self.sizes.cells()):
            raise NotValid()
        return self._cells[cell]

    def log(self):
        """A new list of the accesses (number, processor, request) so far."""
        return list(self._log)

    def _result(self, processor, request):
        """Does what the request asks for, and returns the result."""
        match request:
            case ("read", cell):
                return self._cells[cell]
            case ("write", cell, value):
                self._cells[cell] = value
            case ("swap", cell, old, new):
                return self._swap(cell, old, new)
            case ("send", to, letter):
                self.boxes[to].send(letter)
            case ("take",):
                return self._take(processor)
            case ("walk", space, page):
                return self._walk(processor, space, page)
            case ("load", space, page, index):
                return self._load(self._reached(processor, space, page, index, False))
            case ("store", space, page, index, value):
                return self._store(self._reached(processor, space, page, index, True), value)
            case ("change", space, page, index, old, new):
                return self._change(self._reached(processor, space, page, index, True), old, new)
        return None

    def _swap(self, cell, old, new):
        if self._cells[cell] != old:
            return False
        self._cells[cell] = new
        return True

    def _take(self, processor):
        letter = self.boxes[processor].take()
        if letter is None:
            return False
        ticket, pairs = letter
        self.buffers[processor].drop(pairs)
        self._cells[self.sizes.acknowledge(processor)] = ticket
        return True

    def _walk(self, processor, space, page):
        word = self._cells[self.sizes.word(space, page)]
        self.buffers[processor].put(space, page, word)
        return word

    def _reached(self, processor, space, page, index, writing):
        """The cell to which the processor's buffer leads, or None if it has no entry for this use."""
        frame = self.buffers[processor].frame_for(space, page, writing)
        if frame is None:
            return None
        return self.sizes.frame_cell(frame, index)

    def _load(self, cell):
        if cell is None:
            return None
        return (self._cells[cell],)

    def _store(self, cell, value):
        if cell is None:
            return False
        self._cells[cell] = value
        return True

    def _change(self, cell, old, new):
        if cell is None:
            return None
        if self._swap(cell, old, new):
            return ("done",)
        return (self._cells[cell],)
