"""The buffers of the processors, with entries that lead from pages to frames."""

MOST_ENTRIES = 2


def leads_to_frame(word):
    """True if a walk that reads this word finds a frame."""
    return isinstance(word, tuple) and len(word) == 3 and word[0] == "frame"


class Buffer:
    """The entries (space, page, frame, writable) of one processor."""

    def __init__(self):
        # The eldest entry stands first.
        self._entries = []

    def put(self, space, page, word):
        """Does what a walk of the page does that has read this word."""
        # Without its old entry the page can't have two, and its new one is the youngest.
        self.drop([(space, page)])
        if leads_to_frame(word):
            self._entries.append((space, page, word[1], word[2]))
            self._entries = self._entries[-MOST_ENTRIES:]

    def frame_for(self, space, page, writing):
        """The frame of the page's entry, or None if there is none for this use."""
        for entry_space, entry_page, frame, writable in self._entries:
            if (entry_space, entry_page) == (space, page) and (writable or not writing):
                return frame
        return None

    def drop(self, pairs):
        """Takes out the entries for the pairs (space, page)."""
        self._entries = [entry for entry in self._entries if entry[:2] not in pairs]

    def entries(self):
        """A new list of the entries, the eldest first."""
        return list(self._entries)
