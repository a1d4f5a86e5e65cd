"""The calls, and the machines that make them."""

from frametally.areas import is_area, is_range_below, pages_in, with_area, with_rights, without_pages
from frametally.evict import Evicting
from frametally.kernel import Doing, Invalidating, Locking, Unlocking
from frametally.letters import PAGES, SPACES, is_number_below, is_whole
from frametally.memory import CELLS, FILE_PAGES, FILES
from frametally.moves import InTurn, Owning, Saving, disown, word_write
from frametally.user import Using


def is_space(value):
    """True if the value is the number of a space."""
    return is_number_below(value, SPACES)


def is_place(space, page, index):
    """True if the values are the numbers of a space, of a page and of a cell of it."""
    return is_space(space) and is_number_below(page, PAGES) and is_number_below(index, CELLS)


def is_call(value):
    """True if the value is a call with numbers that exist."""
    if not isinstance(value, tuple):
        return False
    match value:
        case ("load", space, page, index):
            return is_place(space, page, index)
        case ("store", space, page, index, new):
            return is_place(space, page, index) and is_whole(new)
        case ("change", space, page, index, old, new):
            return is_place(space, page, index) and is_whole(old) and is_whole(new)
        case ("map", space, first, pages, rights, source):
            return is_space(space) and is_area((first, pages, rights, source))
        case ("unmap", space, first, pages):
            return is_space(space) and is_range_below(first, pages, PAGES)
        case ("protect", space, first, pages, rights):
            return is_space(space) and is_area((first, pages, rights, None))
        case ("fork", space):
            return is_space(space)
        case ("end", space):
            return is_space(space)
        case ("sync", file):
            return is_number_below(file, FILES)
        case ("begin",):
            return True
        case ("evict",):
            return True
    return False


def private_pages(areas):
    """The list of the private pages, ascending."""
    return pages_in([area for area in areas if area[3] is None], 0, PAGES)


def frame_words(kernel, pairs):
    """The list of those pairs that are owners of frames, each with the word that leads there for reading alone."""
    rows = [(pair, kernel.frames.place_of(pair)) for pair in pairs]
    return [(pair, ("frame", frame, False)) for pair, frame in rows if frame is not None]


def word_of_owner(kernel, pair):
    """The word for reading alone of an owner of a frame or of a swap block; None if the pair is none."""
    frame = kernel.frames.place_of(pair)
    block = kernel.blocks.place_of(pair)
    if frame is not None:
        return ("frame", frame, False)
    if block is not None:
        return ("swap", block)
    return None


def child_words(kernel, space, child):
    """The list of the child's pairs that share a frame or a swap block with the space, each with its word."""
    pages = private_pages(kernel.spaces[space])
    rows = [((child, page), word_of_owner(kernel, (space, page))) for page in pages]
    return [(pair, word) for pair, word in rows if word is not None]


def savings_of(kernel, file):
    """The machines that write the cached pages of the file to its blocks."""
    frames = [(page, kernel.cached(file, page)) for page in range(FILE_PAGES)]
    sizes = kernel.sizes
    return [Saving(sizes, frame, sizes.file_block(file, page)) for page, frame in frames if frame is not None]


class Calling:
    """Makes a call other than a load, a store or a change. Ends with its answer and its witness."""

    def __init__(self, kernel, processor, call):
        self.witness = None
        self._kernel = kernel
        self._processor = processor
        self._call = call
        self._answer = None
        self._pairs = []
        # The number of the last access so far.
        self._last = None
        self._wanted = ("call", Locking(kernel, processor))
        self._behind = self._write_words

    def request(self):
        """What is wanted next."""
        return self._wanted

    def accept(self, result):
        """Goes on with the result."""
        self._behind(result)

    def _write_words(self, number):
        """Begins with the lock taken."""
        self._last = number
        refusal = self._refusal()
        if refusal is None:
            rows = self._changed_words()
            self._pairs = [pair for pair, _ in rows]
            self._wanted = ("call", Doing([word_write(self._kernel, pair, word) for pair, word in rows]))
            self._behind = self._invalidate
        else:
            self._answer = (refusal, None)
            self._give_back(None)

    def _invalidate(self, results):
        for _, number in results:
            self._last = number
        self._wanted = ("call", Invalidating(self._kernel, self._processor, self._pairs))
        self._behind = self._change

    def _change(self, number):
        """Goes on when no entry stands against the change any more."""
        if number is not None:
            self._last = number
        self._answer = ("ok", None)
        self._wanted = ("call", self._change_kernel())
        self._behind = self._give_back

    def _give_back(self, _):
        self._wanted = ("call", Unlocking(self._kernel))
        self._behind = self._end

    def _end(self, number):
        if self.witness is None:
            self.witness = number
        self._wanted = ("end", (self._answer, self.witness))

    def _refusal(self):
        """The word with which the call is refused, or None."""
        name, *rest = self._call
        spaces = self._kernel.spaces
        if name in ("map", "unmap", "protect", "fork", "end") and rest[0] not in spaces:
            return "none"
        if name == "map" and with_area(spaces[rest[0]], tuple(rest[1:])) is None:
            return "taken"
        if name in ("begin", "fork") and self._kernel.new_space() is None:
            return "full"
        return None

    def _changed_words(self):
        """The list of the pairs whose table words are changed ahead of the invalidation, each with its new word."""
        match self._call:
            case ("unmap", space, first, pages):
                return [(pair, None) for pair in self._pairs_in(space, first, pages)]
            case ("end", space):
                return [(pair, None) for pair in self._pairs_in(space, 0, PAGES)]
            case ("protect", space, first, pages, "r"):
                return frame_words(self._kernel, self._pairs_in(space, first, pages))
            case ("fork", space):
                return frame_words(self._kernel, self._private_pairs(space))
        return []

    def _pairs_in(self, space, first, pages):
        """The list of the pairs of the range that are in an area, ascending."""
        return [(space, page) for page in pages_in(self._kernel.spaces[space], first, pages)]

    def _private_pairs(self, space):
        """The list of the pairs of the private pages of the space, ascending."""
        return [(space, page) for page in private_pages(self._kernel.spaces[space])]

    def _change_kernel(self):
        """Does to the kernel what the call says, and returns the machine for what is left to do with the lock."""
        spaces = self._kernel.spaces
        match self._call:
            case ("map", space, *area):
                spaces[space] = with_area(spaces[space], tuple(area))
            case ("unmap", space, first, pages):
                self._disown_pairs()
                spaces[space] = without_pages(spaces[space], first, pages)
            case ("protect", space, first, pages, rights):
                spaces[space] = with_rights(spaces[space], first, pages, rights)
            case ("begin",):
                self._add_space([])
            case ("fork", space):
                child = self._add_space(list(spaces[space]))
                self.witness = self._last
                return Owning(self._kernel, child_words(self._kernel, space, child))
            case ("end", space):
                self._disown_pairs()
                spaces.pop(space)
            case ("evict",):
                return Evicting(self._kernel, self._processor, [])
            case ("sync", file):
                return InTurn(savings_of(self._kernel, file))
        return Doing([])

    def _disown_pairs(self):
        for pair in self._pairs:
            disown(self._kernel, pair)

    def _add_space(self, areas):
        """Adds a space with these areas, and returns its number."""
        space = self._kernel.new_space()
        self._kernel.spaces[space] = areas
        self._answer = ("ok", space)
        return space


def machine_of(kernel, processor, call):
    """The machine of any call."""
    if call[0] in ("load", "store", "change"):
        return Using(kernel, processor, call)
    return Calling(kernel, processor, call)
