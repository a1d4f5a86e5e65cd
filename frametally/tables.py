"""The table words, which say where the cells of a page are."""

from frametally.buffers import leads_to_frame
from frametally.letters import is_number_below, is_tuple_of
from frametally.memory import FILE_PAGES, FILES


def is_word(value, sizes):
    """True if the value is a table word whose numbers exist."""
    if value is None:
        return True
    if not isinstance(value, tuple) or len(value) == 0:
        return False
    if value[0] == "frame":
        return len(value) == 3 and is_number_below(value[1], sizes.frames) and isinstance(value[2], bool)
    if value[0] == "swap":
        return len(value) == 2 and is_number_below(value[1], sizes.blocks)
    if value[0] == "file":
        return len(value) == 3 and is_number_below(value[1], FILES) and is_number_below(value[2], FILE_PAGES)
    return value == ("held",)


def frame_of(word):
    """The frame to which the word leads, or None."""
    if leads_to_frame(word):
        return word[1]
    return None


def block_of(word):
    """The swap block that the word names, or None."""
    if is_tuple_of(word, 2) and word[0] == "swap":
        return word[1]
    return None


def is_writable(word):
    """True if the word leads to a frame and may be written through."""
    return leads_to_frame(word) and word[2] is True


def read_only(word):
    """The same word without the right to write."""
    if leads_to_frame(word):
        return ("frame", word[1], False)
    return word
