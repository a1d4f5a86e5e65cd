"""Eviction, which makes a frame free, and the getting of a frame."""

from frametally.kernel import Doing, Invalidating, file_owner
from frametally.moves import Saving, word_write


def frames_to_pass(kernel, passed_over):
    """The list of the frames that can't be evicted, beside those without owners."""
    if len(kernel.blocks.free()) > 0:
        return list(passed_over)
    private = [frame for frame in range(kernel.sizes.frames) if kernel.is_private(frame)]
    return [*passed_over, *private]


class Evicting:
    """Makes a frame free. Ends with the frame, or None."""

    def __init__(self, kernel, processor, passed_over):
        self._kernel = kernel
        self._processor = processor
        self._pairs = []
        # The swap block for a private frame; None for the page of a file.
        self._block = None
        # The table word that the pairs get: it says where the cells of the frame are then.
        self._word = None
        # A frame in the hands has no owners, so the hand passes over it.
        self._frame = kernel.hand.victim(kernel.frames, frames_to_pass(kernel, passed_over))
        if self._frame is None:
            self._wanted = ("end", None)
        else:
            self._choose_place()
            self._wanted = ("call", Doing([word_write(kernel, pair, self._word) for pair in self._pairs]))
            self._behind = self._invalidate

    def request(self):
        """What is wanted next."""
        return self._wanted

    def accept(self, result):
        """Goes on with the result."""
        self._behind(result)

    def _choose_place(self):
        """Finds where the cells go, and whose table words must say so."""
        owners = self._kernel.frames.owners(self._frame)
        # The owner that caches a page of a file is the same tuple as the table word of that page.
        self._word = file_owner(owners)
        self._pairs = [owner for owner in owners if owner != self._word]
        if self._word is None:
            self._block = self._kernel.blocks.take()
            self._word = ("swap", self._block)

    def _invalidate(self, _):
        self._wanted = ("call", Invalidating(self._kernel, self._processor, self._pairs))
        self._behind = self._save

    def _save(self, _):
        self._wanted = ("call", Saving(self._kernel.sizes, self._frame, self._place()))
        self._behind = self._move_owners

    def _place(self):
        """The cell of the block to which the cells of the frame are written."""
        if self._block is None:
            _, file, page = self._word
            return self._kernel.sizes.file_block(file, page)
        return self._kernel.sizes.swap_block(self._block)

    def _move_owners(self, _):
        """Takes the owners from the frame, and gives them to the swap block if there is one."""
        owners = self._kernel.frames.owners(self._frame)
        for owner in owners:
            self._kernel.frames.remove(self._frame, owner)
            if self._block is not None:
                self._kernel.blocks.add(self._block, owner)
        self._wanted = ("end", self._frame)


class Getting:
    """Takes a frame into the hands. Ends with the frame, or None."""

    def __init__(self, kernel, processor, passed_over):
        self._kernel = kernel
        frame = kernel.frames.take()
        if frame is None:
            self._wanted = ("call", Evicting(kernel, processor, passed_over))
        else:
            self._wanted = ("end", frame)

    def request(self):
        """The eviction, or the end."""
        return self._wanted

    def accept(self, result):
        """Takes the frame that was evicted."""
        if result is not None:
            self._kernel.frames.hold(result)
        self._wanted = ("end", result)
