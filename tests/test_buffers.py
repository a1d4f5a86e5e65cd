"""Points 6 to 9: the buffers."""

import unittest

from frametally.buffers import Buffer
from tests.interface import check_class

# Words of point 12 that lead to no frame.
OTHER_WORDS = (None, ("swap", 0), ("swap", 11), ("held",), ("file", 1, 3))


def filled(*entries):
    """A buffer into which walks have put these entries (space, page, frame, writable)."""
    buffer = Buffer()
    for space, page, frame, writable in entries:
        buffer.put(space, page, ("frame", frame, writable))
    return buffer


class InterfaceTest(unittest.TestCase):
    def test_names_and_arguments(self):
        check_class(self, Buffer, "frametally.buffers", {
            "__init__": [],
            "put": ["space", "page", "word"],
            "frame_for": ["space", "page", "writing"],
            "drop": ["pairs"],
            "entries": [],
        })

    def test_the_example(self):
        buffer = Buffer()
        self.assertIsNone(buffer.put(0, 1, ("frame", 4, False)))
        self.assertEqual(buffer.frame_for(0, 1, False), 4)
        self.assertIsNone(buffer.frame_for(0, 1, True))
        buffer.put(0, 2, ("frame", 5, False))
        buffer.put(0, 3, ("frame", 6, True))
        self.assertIsNone(buffer.frame_for(0, 1, False))

    def test_a_new_buffer_is_empty(self):
        self.assertEqual(Buffer().entries(), [])

    def test_each_processor_has_a_buffer_of_its_own(self):
        buffer = filled((0, 1, 4, True))
        other = Buffer()
        self.assertEqual(other.entries(), [])
        other.put(0, 1, None)
        self.assertEqual(buffer.entries(), [(0, 1, 4, True)])


class PutTest(unittest.TestCase):
    def test_an_entry_is_a_tuple_of_four(self):
        buffer = filled((3, 7, 0, True), (0, 0, 11, False))
        self.assertEqual(buffer.entries(), [(3, 7, 0, True), (0, 0, 11, False)])
        for entry in buffer.entries():
            self.assertIsInstance(entry, tuple)
            self.assertIsInstance(entry[3], bool)

    def test_at_a_third_entry_the_eldest_falls_out(self):
        buffer = filled((0, 1, 4, True), (0, 2, 5, True), (0, 3, 6, True))
        self.assertEqual(buffer.entries(), [(0, 2, 5, True), (0, 3, 6, True)])
        buffer.put(0, 4, ("frame", 7, False))
        self.assertEqual(buffer.entries(), [(0, 3, 6, True), (0, 4, 7, False)])

    def test_the_same_page_of_two_spaces_has_two_entries(self):
        buffer = filled((0, 1, 4, True), (1, 1, 4, False))
        self.assertEqual(buffer.entries(), [(0, 1, 4, True), (1, 1, 4, False)])

    def test_space_and_page_are_not_mixed_up(self):
        buffer = filled((0, 1, 4, True), (1, 0, 5, True))
        self.assertEqual(buffer.frame_for(0, 1, False), 4)
        self.assertEqual(buffer.frame_for(1, 0, False), 5)

    def test_a_frame_for_the_eldest_page_makes_it_the_youngest(self):
        buffer = filled((0, 1, 4, True), (0, 2, 5, True), (0, 1, 6, False))
        self.assertEqual(buffer.entries(), [(0, 2, 5, True), (0, 1, 6, False)])
        buffer.put(0, 3, ("frame", 7, True))
        self.assertEqual(buffer.entries(), [(0, 1, 6, False), (0, 3, 7, True)])

    def test_a_frame_for_the_youngest_page_takes_its_place(self):
        buffer = filled((0, 1, 4, True), (0, 2, 5, True), (0, 2, 6, False))
        self.assertEqual(buffer.entries(), [(0, 1, 4, True), (0, 2, 6, False)])

    def test_the_same_word_again_makes_the_page_the_youngest(self):
        buffer = filled((0, 1, 4, True), (0, 2, 5, True), (0, 1, 4, True))
        self.assertEqual(buffer.entries(), [(0, 2, 5, True), (0, 1, 4, True)])

    def test_another_word_takes_out_just_this_page(self):
        for word in OTHER_WORDS:
            for taken, left in ((1, (0, 2, 5, False)), (2, (0, 1, 4, True))):
                buffer = filled((0, 1, 4, True), (0, 2, 5, False))
                buffer.put(0, taken, word)
                self.assertEqual(buffer.entries(), [left])

    def test_another_word_for_a_page_without_an_entry_does_nothing(self):
        for word in OTHER_WORDS:
            for space, page in ((0, 3), (1, 1), (1, 2), (2, 0)):
                buffer = filled((0, 1, 4, True), (0, 2, 5, False))
                buffer.put(space, page, word)
                self.assertEqual(buffer.entries(), [(0, 1, 4, True), (0, 2, 5, False)])
            buffer = Buffer()
            buffer.put(0, 1, word)
            self.assertEqual(buffer.entries(), [])

    def test_a_freed_place_is_used_before_an_entry_falls_out(self):
        buffer = filled((0, 1, 4, True), (0, 2, 5, True))
        buffer.put(0, 2, ("swap", 3))
        buffer.put(0, 3, ("frame", 6, True))
        self.assertEqual(buffer.entries(), [(0, 1, 4, True), (0, 3, 6, True)])


class FrameForTest(unittest.TestCase):
    def test_a_writable_entry(self):
        buffer = filled((2, 5, 9, True))
        self.assertEqual(buffer.frame_for(2, 5, False), 9)
        self.assertEqual(buffer.frame_for(2, 5, True), 9)

    def test_a_read_only_entry(self):
        buffer = filled((2, 5, 9, False))
        self.assertEqual(buffer.frame_for(2, 5, False), 9)
        self.assertIsNone(buffer.frame_for(2, 5, True))

    def test_no_entry(self):
        for buffer in (Buffer(), filled((2, 5, 9, True))):
            for space, page in ((2, 4), (1, 5), (5, 2)):
                self.assertIsNone(buffer.frame_for(space, page, False))
                self.assertIsNone(buffer.frame_for(space, page, True))

    def test_frame_zero_is_a_frame(self):
        buffer = filled((0, 0, 0, True))
        self.assertEqual(buffer.frame_for(0, 0, False), 0)
        self.assertEqual(buffer.frame_for(0, 0, True), 0)

    def test_the_second_entry_is_found_too(self):
        buffer = filled((0, 1, 4, False), (0, 2, 5, True))
        self.assertEqual(buffer.frame_for(0, 1, False), 4)
        self.assertEqual(buffer.frame_for(0, 2, True), 5)

    def test_use_leaves_the_order_as_it_is(self):
        buffer = filled((0, 1, 4, True), (0, 2, 5, True))
        before = buffer.entries()
        for writing in (False, True):
            for page in (1, 2, 3):
                buffer.frame_for(0, page, writing)
                self.assertEqual(buffer.entries(), before)
        buffer.frame_for(0, 1, True)
        buffer.put(0, 3, ("frame", 6, True))
        self.assertEqual(buffer.entries(), [(0, 2, 5, True), (0, 3, 6, True)])


class DropTest(unittest.TestCase):
    def test_lists_and_tuples_of_pairs(self):
        cases = (
            ([], [(0, 1, 4, True), (3, 2, 5, False)]),
            ([(0, 1)], [(3, 2, 5, False)]),
            ([(3, 2)], [(0, 1, 4, True)]),
            ([(0, 1), (3, 2)], []),
            ([(3, 2), (0, 1)], []),
            ([(0, 1), (0, 1)], [(3, 2, 5, False)]),
            ([(0, 2), (1, 0), (3, 1), (2, 3)], [(0, 1, 4, True), (3, 2, 5, False)]),
            ([(2, 2), (3, 2), (0, 7)], [(0, 1, 4, True)]),
        )
        for pairs, left in cases:
            for kind in (list, tuple):
                buffer = filled((0, 1, 4, True), (3, 2, 5, False))
                self.assertIsNone(buffer.drop(kind(pairs)))
                self.assertEqual(buffer.entries(), left)

    def test_an_empty_buffer_stays_empty(self):
        buffer = Buffer()
        for pairs in ([], (), [(0, 1)], ((0, 1), (0, 1))):
            buffer.drop(pairs)
            self.assertEqual(buffer.entries(), [])

    def test_what_was_dropped_is_not_found(self):
        buffer = filled((0, 1, 4, True), (0, 2, 5, True))
        buffer.drop([(0, 1)])
        self.assertIsNone(buffer.frame_for(0, 1, False))
        self.assertEqual(buffer.frame_for(0, 2, True), 5)

    def test_the_order_of_the_others_stays(self):
        buffer = filled((0, 1, 4, True), (0, 2, 5, True))
        buffer.drop([(0, 2)])
        buffer.put(0, 3, ("frame", 6, True))
        buffer.put(0, 4, ("frame", 7, True))
        self.assertEqual(buffer.entries(), [(0, 3, 6, True), (0, 4, 7, True)])


class ListsTest(unittest.TestCase):
    """Point 1: lists that are passed or returned."""

    def test_a_passed_list_is_not_changed_and_not_kept(self):
        buffer = filled((0, 1, 4, True), (0, 2, 5, True))
        pairs = [(0, 1), (0, 1), (3, 3)]
        buffer.drop(pairs)
        self.assertEqual(pairs, [(0, 1), (0, 1), (3, 3)])
        pairs.append((0, 2))
        self.assertEqual(buffer.entries(), [(0, 2, 5, True)])
        buffer.put(0, 1, ("frame", 4, True))
        self.assertEqual(buffer.entries(), [(0, 2, 5, True), (0, 1, 4, True)])

    def test_a_returned_list_is_the_callers(self):
        for entries in ([], [(0, 1, 4, True)]):
            buffer = filled(*entries)
            buffer.entries().append((0, 7, 7, True))
            self.assertEqual(buffer.entries(), entries)
            buffer.entries().clear()
            self.assertEqual(buffer.entries(), entries)

    def test_a_returned_list_is_not_changed_later(self):
        buffer = filled((0, 1, 4, True), (0, 2, 5, True))
        entries = buffer.entries()
        buffer.put(0, 1, None)
        buffer.put(0, 3, ("frame", 6, True))
        buffer.drop([(0, 2)])
        self.assertEqual(entries, [(0, 1, 4, True), (0, 2, 5, True)])


def model_put(model, pair, word):
    """What a walk does to a dict from pairs to (frame, writable), the eldest first."""
    model.pop(pair, None)
    if word is not None and word[0] == "frame":
        model[pair] = word[1:]
    if len(model) > 2:
        del model[next(iter(model))]


def model_drop(model, pairs):
    for pair in pairs:
        model.pop(pair, None)


class EverySequenceTest(unittest.TestCase):
    """All short sequences of walks and drops, compared with a plain dict."""

    PAIRS = ((0, 1), (1, 0), (1, 1))
    WORDS = (("frame", 0, True), ("frame", 1, False), ("swap", 1))
    DROPS = ((), ((0, 1),), ((1, 0), (1, 1)))
    LENGTH = 4

    def check(self, buffer, model):
        expected = [pair + rest for pair, rest in model.items()]
        self.assertEqual(buffer.entries(), expected)
        for space, page in self.PAIRS:
            frame, writable = model.get((space, page), (None, False))
            self.assertEqual(buffer.frame_for(space, page, False), frame)
            self.assertEqual(buffer.frame_for(space, page, True), frame if writable else None)

    def play(self, actions):
        buffer = Buffer()
        model = {}
        for pair, word, pairs in actions:
            if pair is None:
                buffer.drop(pairs)
                model_drop(model, pairs)
            else:
                buffer.put(pair[0], pair[1], word)
                model_put(model, pair, word)
        self.check(buffer, model)

    def play_all(self, actions, left):
        self.play(actions)
        if left == 0:
            return
        for pair in self.PAIRS:
            for word in self.WORDS:
                self.play_all(actions + [(pair, word, None)], left - 1)
        for pairs in self.DROPS:
            self.play_all(actions + [(None, None, pairs)], left - 1)

    def test_every_sequence(self):
        self.play_all([], self.LENGTH)


if __name__ == "__main__":
    unittest.main()
