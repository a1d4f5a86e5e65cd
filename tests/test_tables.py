"""Points 12 and 13: the table words."""

import unittest

from frametally.memory import Sizes
from frametally.tables import block_of, frame_of, is_word, is_writable, read_only
from tests.interface import check_function

# Each kind of word, and what is said of it: its frame, its block, whether it is writable, itself read-only.
WORDS = (
    (None, None, None, False, None),
    (("frame", 0, True), 0, None, True, ("frame", 0, False)),
    (("frame", 0, False), 0, None, False, ("frame", 0, False)),
    (("frame", 2, True), 2, None, True, ("frame", 2, False)),
    (("frame", 2, False), 2, None, False, ("frame", 2, False)),
    (("swap", 0), None, 0, False, ("swap", 0)),
    (("swap", 3), None, 3, False, ("swap", 3)),
    (("held",), None, None, False, ("held",)),
    (("file", 0, 0), None, None, False, ("file", 0, 0)),
    (("file", 1, 3), None, None, False, ("file", 1, 3)),
    # It has three parts and ends with a 1, as a frame's word might.
    (("file", 1, 1), None, None, False, ("file", 1, 1)),
)

NO_NUMBERS = (True, False, None, "0", (0,), [0])


def numbered(many):
    """Numbers that do not exist, where so many do, and what is no number."""
    return (-1, -many - 1, many, many + 1, 10 ** 30) + NO_NUMBERS


class InterfaceTest(unittest.TestCase):
    def test_names_and_arguments(self):
        check_function(self, is_word, "frametally.tables", ["value", "sizes"])
        for function in (frame_of, block_of, is_writable, read_only):
            check_function(self, function, "frametally.tables", ["word"])


class IsWordTest(unittest.TestCase):
    def setUp(self):
        self.sizes = Sizes(2, 3, 4)

    def check(self, value, expected):
        with self.subTest(value=value):
            self.assertIs(is_word(value, self.sizes), expected)

    def test_each_kind(self):
        for word, *_ in WORDS:
            self.check(word, True)

    def test_frames(self):
        for writable in (True, False):
            for frame in range(3):
                self.check(("frame", frame, writable), True)
            for frame in numbered(3):
                self.check(("frame", frame, writable), False)

    def test_writable_is_true_or_false(self):
        for writable in (0, 1, -1, None, "", "True", (), (True,), [True]):
            self.check(("frame", 1, writable), False)

    def test_swap_blocks(self):
        for block in range(4):
            self.check(("swap", block), True)
        for block in numbered(4):
            self.check(("swap", block), False)

    def test_files_and_their_pages(self):
        for file in range(2):
            for page in range(4):
                self.check(("file", file, page), True)
        for file in numbered(2):
            self.check(("file", file, 0), False)
        for page in numbered(4):
            self.check(("file", 0, page), False)

    def test_the_numbers_of_other_sizes(self):
        for frames in (2, 12):
            for blocks in (0, 1, 12):
                self.sizes = Sizes(1, frames, blocks)
                self.check(("frame", frames - 1, True), True)
                self.check(("frame", frames, True), False)
                self.check(("swap", blocks - 1), blocks > 0)
                self.check(("swap", blocks), False)
                self.check(("file", 1, 3), True)

    def test_parts_too_many_or_too_few(self):
        for value in (
            (), ("frame",), ("frame", 1), ("frame", 1, True, 0), ("frame", True), ("swap",), ("swap", 1, True),
            ("swap", 1, 1), ("held", 0), ("held", 0, True), ("held", None), ("file",), ("file", 1), ("file", 1, 1, 1),
        ):
            self.check(value, False)

    def test_other_first_parts(self):
        for first in ("", "frames", "Frame", "none", "call", "word", None, 0, True, (), ("frame",), ["frame"]):
            for rest in ((), (1,), (1, True), (1, 1)):
                self.check((first, *rest), False)

    def test_other_kinds(self):
        for value in (
            0, 1, -1, True, False, "", "frame", "held", "swap", [], {}, [("held",)], (("held",),), (None,), ((),),
            ["frame", 1, True], ["swap", 1], ["held"], ["file", 1, 1], {"frame": 1}, b"held", (1, True), (0, 0),
        ):
            self.check(value, False)


class PartsTest(unittest.TestCase):
    def test_frame_of(self):
        for word, frame, _, _, _ in WORDS:
            self.assertEqual(frame_of(word), frame)

    def test_block_of(self):
        for word, _, block, _, _ in WORDS:
            self.assertEqual(block_of(word), block)

    def test_is_writable(self):
        for word, _, _, writable, _ in WORDS:
            self.assertIs(is_writable(word), writable)

    def test_read_only(self):
        for word, _, _, _, expected in WORDS:
            copy = None if word is None else tuple(list(word))
            found = read_only(word)
            self.assertEqual(found, expected)
            self.assertIs(is_writable(found), False)
            # The word that was passed is as it was.
            self.assertEqual(word, copy)
            self.assertEqual(read_only(found), found)
            self.assertTrue(is_word(found, Sizes(2, 3, 4)))

    def test_every_number(self):
        for number in range(12):
            for writable in (True, False):
                self.assertEqual(frame_of(("frame", number, writable)), number)
                self.assertEqual(read_only(("frame", number, writable)), ("frame", number, False))
            self.assertEqual(block_of(("swap", number)), number)


if __name__ == "__main__":
    unittest.main()
