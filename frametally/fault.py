"""Making a page ready: its table word leads to a frame then, for writing a writable one."""

from frametally.areas import area_of, source_of
from frametally.evict import Getting
from frametally.kernel import Doing, Invalidating
from frametally.moves import Owning, reads_of, values_of, word_write, writes_of
from frametally.tables import block_of, frame_of, is_writable


def may_write(area):
    """True if the pages of the area may be written."""
    _, _, rights, _ = area
    return rights == "rw"


class Bringing:
    """Brings a page that is nowhere, or a page of a file, into a frame. Ends with its table word, or None."""

    def __init__(self, kernel, processor, pair, area):
        self._kernel = kernel
        self._pair = pair
        self._writable = may_write(area)
        self._source = source_of(area, pair[1])
        self._frame = None
        if self._source is not None:
            file, page = self._source
            self._frame = kernel.cached(file, page)
        if self._frame is None:
            self._wanted = ("call", Getting(kernel, processor, []))
            self._behind = self._take
        else:
            self._lead()

    def request(self):
        """What is wanted next."""
        return self._wanted

    def accept(self, result):
        """Goes on with the result."""
        self._behind(result)

    def _take(self, frame):
        """Goes on with the frame in the hands, if one was got."""
        self._frame = frame
        if frame is None:
            self._end(None)
        elif self._source is None:
            self._fill((0, 0))
        else:
            file, page = self._source
            self._wanted = ("read", self._kernel.sizes.file_block(file, page))
            self._behind = self._fill_from_block

    def _fill_from_block(self, result):
        values, _ = result
        self._fill(values)

    def _fill(self, values):
        self._wanted = ("call", Doing(writes_of(self._kernel.sizes, self._frame, values)))
        self._behind = self._cache

    def _cache(self, _):
        """The frame has its values: it caches the page of the file, if it is one."""
        if self._source is not None:
            file, page = self._source
            self._kernel.frames.add(self._frame, ("file", file, page))
        self._lead()

    def _lead(self):
        """Lets the page lead to the frame."""
        self._wanted = ("call", Owning(self._kernel, [(self._pair, ("frame", self._frame, self._writable))]))
        self._behind = self._end

    def _end(self, word):
        self._wanted = ("end", word)


class Returning:
    """Brings the pages of a swap block back into a frame. Ends with their table word."""

    def __init__(self, kernel, processor, block, area):
        self._kernel = kernel
        self._processor = processor
        self._block = block
        self._pairs = kernel.blocks.owners(block)
        # A single owner is the page that is made ready, so the area is its own.
        self._writable = len(self._pairs) == 1 and may_write(area)
        self._values = None
        self._word = None
        self._wanted = ("read", kernel.sizes.swap_block(block))
        self._behind = self._hold

    def request(self):
        """What is wanted next."""
        return self._wanted

    def accept(self, result):
        """Goes on with the result."""
        self._behind(result)

    def _hold(self, result):
        """The values are known: no page leads to the block from now on."""
        self._values, _ = result
        self._wanted = ("call", Doing([word_write(self._kernel, pair, ("held",)) for pair in self._pairs]))
        self._behind = self._get

    def _get(self, _):
        """Frees the block, so that private frames can be evicted, and gets a frame."""
        for pair in self._pairs:
            self._kernel.blocks.remove(self._block, pair)
        self._wanted = ("call", Getting(self._kernel, self._processor, []))
        self._behind = self._fill

    def _fill(self, frame):
        self._word = ("frame", frame, self._writable)
        self._wanted = ("call", Doing(writes_of(self._kernel.sizes, frame, self._values)))
        self._behind = self._lead

    def _lead(self, _):
        """Lets the pages lead to the frame."""
        self._wanted = ("call", Owning(self._kernel, [(pair, self._word) for pair in self._pairs]))
        self._behind = self._end

    def _end(self, word):
        self._wanted = ("end", word)


class Copying:
    """Gives a page a frame of its own, with the values of the one that it shares. Ends with its table word, or None."""

    def __init__(self, kernel, processor, pair, frame):
        self._kernel = kernel
        self._processor = processor
        self._pair = pair
        self._old = frame
        self._new = None
        self._wanted = ("call", Getting(kernel, processor, [frame]))
        self._behind = self._read

    def request(self):
        """What is wanted next."""
        return self._wanted

    def accept(self, result):
        """Goes on with the result."""
        self._behind(result)

    def _read(self, frame):
        """Goes on with the frame in the hands, if one was got."""
        self._new = frame
        if frame is None:
            self._end(None)
        else:
            self._wanted = ("call", Doing(reads_of(self._kernel.sizes, self._old)))
            self._behind = self._write

    def _write(self, results):
        """Copies the values. Behind it the page leads nowhere, until all have dropped their entries."""
        copies = writes_of(self._kernel.sizes, self._new, values_of(results))
        self._wanted = ("call", Doing([*copies, word_write(self._kernel, self._pair, None)]))
        self._behind = self._invalidate

    def _invalidate(self, _):
        self._kernel.frames.remove(self._old, self._pair)
        self._wanted = ("call", Invalidating(self._kernel, self._processor, [self._pair]))
        self._behind = self._lead

    def _lead(self, _):
        """Lets the page lead to its own frame."""
        self._wanted = ("call", Owning(self._kernel, [(self._pair, ("frame", self._new, True))]))
        self._behind = self._end

    def _end(self, word):
        self._wanted = ("end", word)


class Readying:
    """Makes a page ready for reading or writing. Ends with the frame, or None if it failed."""

    def __init__(self, kernel, processor, pair, writing, word):
        self._kernel = kernel
        self._processor = processor
        self._pair = pair
        self._writing = writing
        self._word = None
        space, page = pair
        self._area = area_of(kernel.spaces[space], page)
        self._behind = self._look
        if frame_of(word) is not None:
            self._look(word)
        elif block_of(word) is not None:
            self._wanted = ("call", Returning(kernel, processor, block_of(word), self._area))
        else:
            self._wanted = ("call", Bringing(kernel, processor, pair, self._area))

    def request(self):
        """What is wanted next."""
        return self._wanted

    def accept(self, result):
        """Goes on with the result."""
        self._behind(result)

    def _look(self, word):
        """Goes on with the table word, which leads to a frame if one was got."""
        frame = frame_of(word)
        if frame is None or not self._writing or is_writable(word):
            self._end(word)
        elif self._keeps(frame):
            self._word = ("frame", frame, True)
            self._wanted = word_write(self._kernel, self._pair, self._word)
            self._behind = self._end_written
        else:
            self._wanted = ("call", Copying(self._kernel, self._processor, self._pair, frame))
            self._behind = self._end

    def _keeps(self, frame):
        """True if the page may be written in this very frame."""
        _, _, _, source = self._area
        return source is not None or self._kernel.frames.owners(frame) == [self._pair]

    def _end_written(self, _):
        self._end(self._word)

    def _end(self, word):
        self._wanted = ("end", frame_of(word))
