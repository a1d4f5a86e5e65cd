"""The letters by which processors ask each other to drop entries, and their boxes."""

from frametally.errors import NotValid

SPACES = 4
PAGES = 8


def is_whole(value):
    """True if the value is an integer."""
    # Python counts True and False among the integers, Frametally does not.
    return isinstance(value, int) and not isinstance(value, bool)


def is_number_below(value, many):
    """True if the value is an integer from 0 to many - 1."""
    return is_whole(value) and 0 <= value < many


def is_tuple_of(value, many):
    """True if the value is a tuple with so many parts."""
    return isinstance(value, tuple) and len(value) == many


def is_pair(value):
    """True if the value is a tuple (space, page) of numbers that exist."""
    if not is_tuple_of(value, 2):
        return False
    space, page = value
    return is_number_below(space, SPACES) and is_number_below(page, PAGES)


def is_letter(value):
    """True if the value is a tuple (ticket, pairs)."""
    if not is_tuple_of(value, 2):
        return False
    ticket, pairs = value
    if not is_whole(ticket) or ticket < 1:
        return False
    if not isinstance(pairs, tuple) or len(pairs) == 0:
        return False
    return all([is_pair(pair) for pair in pairs])


class Box:
    """The letters that were sent to a processor and not taken yet."""

    def __init__(self):
        self._letters = []

    def send(self, letter):
        """Adds a letter behind those that are there."""
        if not is_letter(letter):
            raise NotValid()
        self._letters.append(letter)

    def take(self):
        """Removes the first letter and returns it; None if there is none."""
        if len(self._letters) == 0:
            return None
        return self._letters.pop(0)

    def letters(self):
        """A new list of the letters, the first one first."""
        return list(self._letters)
