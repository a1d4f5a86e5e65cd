"""Points 51 to 53: the checker."""

import copy
import unittest

from frametally.checks import first_fault, shown, without_zeros
from frametally.errors import Broken
from frametally.world import World
from tests.interface import check_function
from tests.play import fill, fill_block, kernel_state, new_kernel, state_of

# Pages 0 to 2 are private, 4 and 5 show pages 1 and 2 of file 1; in space 2 all this may only be read.
AREAS = [(0, 3, "rw", None), (4, 2, "rw", (1, 1))]
AREAS_R = [(0, 3, "r", None), (4, 2, "r", (1, 1))]


def put(kernel, pair, word):
    """Gives the pair a table word, by an access."""
    kernel.memory.access(0, ("write", kernel.word_cell(pair), word))


def good_kernel(processors=2):
    """A kernel that fits together: there is a word of each kind, and a free frame and a free block."""
    kernel = new_kernel(processors, 6, 4)
    kernel.spaces = {0: list(AREAS), 2: list(AREAS_R)}
    fill(kernel, 0, [(0, 0)], (1, 2), True)
    fill(kernel, 1, [("file", 1, 1), (0, 4), (2, 4)], (3, 4))
    put(kernel, (0, 4), ("frame", 1, True))
    fill(kernel, 2, [(0, 1), (2, 1)], (0, 5))
    fill(kernel, 3, [(2, 0)], (6, 0))
    fill(kernel, 4, [("file", 0, 3)], (7, 0))
    fill_block(kernel, 1, [(0, 2), (2, 2)], (8, 0))
    put(kernel, (0, 5), ("file", 1, 2))
    for file, page, values in ((1, 1, (50, 51)), (1, 2, (0, 9)), (0, 3, (52, 53)), (0, 0, (10, 0))):
        kernel.memory.access(0, ("write", kernel.sizes.file_block(file, page), values))
    return kernel


GOOD = {
    "spaces": {
        0: (
            {0: ("rw", None), 1: ("rw", None), 2: ("rw", None), 4: ("rw", (1, 1)), 5: ("rw", (1, 2))},
            {(0, 0): 1, (0, 1): 2, (1, 1): 5, (2, 0): 8},
        ),
        2: (
            {0: ("r", None), 1: ("r", None), 2: ("r", None), 4: ("r", (1, 1)), 5: ("r", (1, 2))},
            {(0, 0): 6, (1, 1): 5, (2, 0): 8},
        ),
    },
    "files": {(1, 1, 0): 3, (1, 1, 1): 4, (1, 2, 1): 9, (0, 3, 0): 7, (0, 0, 0): 10},
}


class ChecksCase(unittest.TestCase):
    def check(self, kernel, word):
        """Checks the first fault, what `shown` makes of it, and that nothing is changed."""
        memory = kernel.memory
        before = (state_of(memory), kernel_state(kernel))
        self.assertEqual(first_fault(memory, kernel), word)
        self.assertEqual((state_of(memory), kernel_state(kernel)), before)
        if word:
            with self.assertRaises(Broken):
                shown(memory, kernel)
        else:
            shown(memory, kernel)
        self.assertEqual((state_of(memory), kernel_state(kernel)), before)


class InterfaceTest(unittest.TestCase):
    def test_names_and_arguments(self):
        check_function(self, first_fault, "frametally.checks", ["memory", "kernel"])
        check_function(self, shown, "frametally.checks", ["memory", "kernel"])
        check_function(self, without_zeros, "frametally.checks", ["plain"])


class FittingTest(ChecksCase):
    def test_a_new_kernel(self):
        for processors, frames, blocks in ((1, 2, 0), (2, 3, 4), (3, 12, 12)):
            kernel = new_kernel(processors, frames, blocks)
            self.check(kernel, "")
            self.assertEqual(shown(kernel.memory, kernel), {"spaces": {0: ({}, {})}, "files": {}})

    def test_a_word_of_each_kind(self):
        for processors in (1, 2, 3):
            self.check(good_kernel(processors), "")

    def test_without_spaces(self):
        kernel = new_kernel(1, 2, 0)
        kernel.spaces = {}
        self.check(kernel, "")
        self.assertEqual(shown(kernel.memory, kernel), {"spaces": {}, "files": {}})

    def test_a_word_without_the_right_where_there_is_one(self):
        kernel = good_kernel()
        put(kernel, (0, 0), ("frame", 0, False))
        put(kernel, (0, 4), ("frame", 1, False))
        self.check(kernel, "")

    def test_entries(self):
        kernel = good_kernel()
        for pair in ((0, 0), (0, 4), (2, 1)):
            kernel.memory.access(1, ("walk", *pair))
            kernel.memory.access(0, ("walk", *pair))
        self.check(kernel, "")
        # An entry may have less rights than the word.
        kernel.memory.buffers[0].put(0, 0, ("frame", 0, False))
        self.check(kernel, "")


class WordTest(ChecksCase):
    def check_word(self, pair, word):
        kernel = good_kernel()
        for owners in (kernel.frames, kernel.blocks):
            place = owners.place_of(pair)
            if place is not None and len(owners.owners(place)) > 1:
                owners.remove(place, pair)
        put(kernel, pair, word)
        self.check(kernel, "word")

    def test_what_is_no_table_word(self):
        for pair in ((0, 0), (0, 4), (0, 2), (2, 5)):
            for word in (
                0, 5, (), ("frame",), ("frame", 0), ("frame", 6, False), ("frame", -1, False), ("frame", True, False),
                ("frame", 0, 0), ("frame", 0, None), ("frame", 0, False, 1), ("frame", None, False), ("swap",),
                ("swap", 4),
                ("swap", -1), ("swap", False), ("swap", 1, 2), ("swap", None), ("file", 2, 0), ("file", 1, 4),
                ("file", 1),
                ("file", 1, 2, 3), ("file", True, 2), ("held", 0), ("none",), (None,), (0, 1, True),
            ):
                self.check_word(pair, word)

    def test_held(self):
        for pair in ((0, 0), (0, 1), (0, 2), (0, 4), (2, 5), (0, 3), (1, 0)):
            self.check_word(pair, ("held",))

    def test_a_page_without_an_area_or_a_space(self):
        for pair in ((0, 3), (0, 6), (0, 7), (2, 3), (1, 0), (1, 4), (3, 0), (3, 7)):
            for word in (("frame", 0, False), ("frame", 5, True), ("swap", 0), ("swap", 1), ("file", 1, 1)):
                self.check_word(pair, word)

    def test_a_private_page(self):
        for pair in ((0, 0), (0, 1), (0, 2), (2, 0)):
            for word in (("file", 1, 1), ("file", 0, 0)):
                self.check_word(pair, word)

    def test_a_shared_page(self):
        for pair, source in (((0, 4), 1), ((0, 5), 2), ((2, 5), 2)):
            self.check_word(pair, ("swap", 0))
            self.check_word(pair, ("swap", 1))
            for file in range(2):
                for page in range(4):
                    if (file, page) != (1, source):
                        self.check_word(pair, ("file", file, page))

    def test_a_right_that_the_area_has_not(self):
        self.check_word((2, 0), ("frame", 3, True))
        self.check_word((2, 4), ("frame", 1, True))
        self.check_word((2, 5), ("frame", 5, True))

    def test_an_area_that_was_cut_out(self):
        first, second = AREAS
        for spaces in (
            {2: AREAS_R}, {0: AREAS}, {0: [second], 2: AREAS_R}, {0: [first], 2: AREAS_R}, {0: AREAS, 2: []},
            {0: [(0, 2, "rw", None), second], 2: AREAS_R}, {0: [(0, 3, "r", None), second], 2: AREAS_R},
            {0: [first, (4, 2, "r", (1, 1))], 2: AREAS_R}, {0: [first, (4, 2, "rw", (0, 1))], 2: AREAS_R},
            {0: [first, (4, 2, "rw", (1, 0))], 2: AREAS_R}, {0: [first, (4, 2, "rw", None)], 2: AREAS_R},
        ):
            kernel = good_kernel()
            kernel.spaces = {space: list(areas) for space, areas in spaces.items()}
            self.check(kernel, "word")


class OwnerTest(ChecksCase):
    def test_a_word_that_leads_where_the_page_is_no_owner(self):
        for pair, word in (
            ((0, 0), ("frame", 3, False)), ((0, 0), ("frame", 5, True)), ((0, 0), ("frame", 2, False)),
            ((0, 0), ("swap", 1)),
            ((0, 0), ("swap", 0)), ((0, 2), ("swap", 2)), ((0, 2), ("frame", 5, False)), ((0, 2), ("frame", 2, False)),
            ((0, 1), ("swap", 1)), ((0, 4), ("frame", 5, True)), ((0, 5), ("frame", 5, True)),
            ((2, 5), ("frame", 1, False)),
        ):
            kernel = good_kernel()
            put(kernel, pair, word)
            self.check(kernel, "owner")

    def test_an_owner_whose_word_does_not_lead_there(self):
        for pair in ((0, 0), (0, 1), (2, 0), (2, 1), (0, 4), (2, 4), (0, 2), (2, 2)):
            kernel = good_kernel()
            put(kernel, pair, None)
            self.check(kernel, "owner")
        kernel = good_kernel()
        put(kernel, (0, 4), ("file", 1, 1))
        self.check(kernel, "owner")

    def test_an_owner_too_few(self):
        for pair in ((0, 0), (0, 1), (2, 1), (0, 4), (2, 4), (0, 2), (2, 2)):
            kernel = good_kernel()
            for owners in (kernel.frames, kernel.blocks):
                if owners.place_of(pair) is not None:
                    owners.remove(owners.place_of(pair), pair)
            self.check(kernel, "owner")

    def test_an_owner_too_many(self):
        for pair in ((0, 3), (0, 5), (1, 0), (3, 7), (2, 5)):
            for frame in range(5):
                kernel = good_kernel()
                kernel.frames.add(frame, pair)
                self.check(kernel, "owner")
            kernel = good_kernel()
            kernel.blocks.add(1, pair)
            self.check(kernel, "owner")

    def test_an_owner_that_is_no_page(self):
        for owner in ((4, 0), (0, 8), (-1, 0), ("file", 2, 0), ("file", 0, 4), ("swap", 0)):
            kernel = good_kernel()
            kernel.frames.add(0, owner)
            self.check(kernel, "owner")
        # Blocks do not cache pages of files.
        for owner in ((4, 0), ("file", 0, 0)):
            kernel = good_kernel()
            kernel.blocks.add(1, owner)
            self.check(kernel, "owner")

    def test_an_owner_of_a_frame_and_of_a_block(self):
        kernel = good_kernel()
        kernel.blocks.add(1, (0, 0))
        self.check(kernel, "owner")
        kernel = good_kernel()
        kernel.frames.add(2, (0, 2))
        self.check(kernel, "owner")

    def test_a_shared_page_in_another_frame_than_that_of_its_page_of_the_file(self):
        # Its frame caches another page.
        for other in (("file", 1, 0), ("file", 0, 1), ("file", 1, 2)):
            kernel = good_kernel()
            kernel.frames.remove(1, ("file", 1, 1))
            kernel.frames.add(1, other)
            self.check(kernel, "owner")
        # Its frame caches nothing.
        kernel = good_kernel()
        kernel.frames.remove(1, ("file", 1, 1))
        self.check(kernel, "owner")
        # Its page is cached by another frame.
        kernel = good_kernel()
        kernel.frames.remove(1, ("file", 1, 1))
        kernel.frames.hold(5)
        kernel.frames.add(5, ("file", 1, 1))
        self.check(kernel, "owner")
        kernel = good_kernel()
        fill(kernel, 5, [(0, 5)], (1, 2), True)
        self.check(kernel, "owner")

    def test_a_private_page_in_a_frame_that_caches_a_page(self):
        kernel = good_kernel()
        kernel.frames.add(0, ("file", 1, 0))
        self.check(kernel, "owner")
        kernel = good_kernel()
        put(kernel, (0, 0), ("frame", 4, False))
        kernel.frames.remove(0, (0, 0))
        kernel.frames.add(4, (0, 0))
        self.check(kernel, "owner")

    def test_a_writable_word_of_one_of_several_owners(self):
        kernel = good_kernel()
        put(kernel, (0, 1), ("frame", 2, True))
        self.check(kernel, "owner")
        kernel.frames.remove(2, (2, 1))
        put(kernel, (2, 1), None)
        self.check(kernel, "")

    def test_a_page_that_is_cached_without_a_word(self):
        kernel = good_kernel()
        kernel.frames.hold(5)
        kernel.frames.add(5, ("file", 0, 0))
        self.check(kernel, "")


class HandsTest(ChecksCase):
    def test_a_frame(self):
        kernel = good_kernel()
        kernel.frames.hold(5)
        self.check(kernel, "hands")
        kernel.frames.give_back(5)
        self.check(kernel, "")

    def test_a_block(self):
        for block in (0, 2, 3):
            kernel = good_kernel()
            kernel.blocks.hold(block)
            self.check(kernel, "hands")


class EntryTest(ChecksCase):
    def check_entry(self, pair, word):
        for processors in (1, 2, 3):
            for processor in range(processors):
                kernel = good_kernel(processors)
                kernel.memory.access(processor, ("walk", 0, 0))
                kernel.memory.buffers[processor].put(*pair, word)
                self.check(kernel, "entry")

    def test_another_frame(self):
        for frame in range(6):
            if frame != 0:
                self.check_entry((0, 0), ("frame", frame, False))
            if frame != 1:
                self.check_entry((0, 4), ("frame", frame, True))

    def test_a_page_whose_word_leads_to_no_frame(self):
        for pair in ((0, 2), (0, 5), (2, 5), (0, 3), (1, 0), (3, 7)):
            self.check_entry(pair, ("frame", 0, False))

    def test_a_right_that_the_word_has_not(self):
        for pair, frame in (((0, 1), 2), ((2, 0), 3), ((2, 4), 1)):
            self.check_entry(pair, ("frame", frame, True))

    def test_each_of_two_entries(self):
        for pair in ((0, 4), (0, 1)):
            kernel = good_kernel()
            kernel.memory.buffers[1].put(0, 0, ("frame", 1, False))
            kernel.memory.access(1, ("walk", *pair))
            self.assertEqual(len(kernel.memory.buffers[1].entries()), 2)
            self.check(kernel, "entry")


class LetterTest(ChecksCase):
    def test_a_letter(self):
        for processors in (1, 2, 3):
            for processor in range(processors):
                kernel = good_kernel(processors)
                kernel.memory.access(0, ("send", processor, (3, ((3, 3),))))
                self.check(kernel, "letter")
                kernel.memory.access(processor, ("take",))
                self.check(kernel, "")


class PrecedenceTest(ChecksCase):
    def test_the_order_of_the_faults(self):
        kernel = good_kernel()
        kernel.memory.access(0, ("send", 1, (3, ((3, 3),))))
        self.check(kernel, "letter")
        kernel.memory.buffers[1].put(0, 2, ("frame", 0, False))
        self.check(kernel, "entry")
        kernel.blocks.take()
        self.check(kernel, "hands")
        kernel.frames.add(0, (3, 3))
        self.check(kernel, "owner")
        put(kernel, (1, 1), ("held",))
        self.check(kernel, "word")

    def test_a_word_beside_each_of_the_others(self):
        for bend in (
            lambda kernel: kernel.frames.add(0, (3, 3)), lambda kernel: kernel.frames.take(),
            lambda kernel: kernel.memory.buffers[1].put(0, 2, ("frame", 0, False)),
            lambda kernel: kernel.memory.access(0, ("send", 1, (3, ((3, 3),)))),
        ):
            kernel = good_kernel()
            bend(kernel)
            put(kernel, (0, 3), ("frame", 0, True))
            self.check(kernel, "word")


class ShownTest(ChecksCase):
    """Point 53."""

    def test_values_of_each_kind(self):
        kernel = good_kernel()
        found = shown(kernel.memory, kernel)
        self.assertEqual(found, GOOD)
        for pages, cells in found["spaces"].values():
            self.assertIsInstance(pages, dict)
            self.assertIsInstance(cells, dict)

    def test_what_is_shown_is_not_changed_later(self):
        kernel = good_kernel()
        found = shown(kernel.memory, kernel)
        kernel.memory.access(0, ("write", kernel.sizes.frame_cell(0, 0), 99))
        kernel.spaces[2] = []
        self.assertEqual(found, GOOD)
        found["spaces"][0][1].clear()
        found["files"].clear()
        self.assertEqual(shown(good_kernel().memory, good_kernel()), GOOD)

    def test_values_that_are_not_0(self):
        kernel = new_kernel(1, 3, 2)
        kernel.spaces = {3: [(6, 2, "r", None), (0, 1, "rw", (0, 0))]}
        fill(kernel, 0, [(3, 6)], (-1, 10 ** 20))
        fill_block(kernel, 0, [(3, 7)], (0, -2))
        self.assertEqual(shown(kernel.memory, kernel), {
            "spaces": {3: (
                {6: ("r", None), 7: ("r", None), 0: ("rw", (0, 0))}, {(6, 0): -1, (6, 1): 10 ** 20, (7, 1): -2},
            )},
            "files": {},
        })

    def test_a_shared_page_has_no_private_cells(self):
        kernel = new_kernel(1, 3, 2)
        kernel.spaces = {0: [(2, 2, "rw", (0, 1))]}
        fill(kernel, 1, [("file", 0, 1), (0, 2)], (4, 5), True)
        kernel.memory.access(0, ("write", kernel.sizes.file_block(0, 2), (6, 7)))
        self.assertEqual(shown(kernel.memory, kernel), {
            "spaces": {0: ({2: ("rw", (0, 1)), 3: ("rw", (0, 2))}, {})},
            "files": {(0, 1, 0): 4, (0, 1, 1): 5, (0, 2, 0): 6, (0, 2, 1): 7},
        })

    def test_a_world(self):
        world = World(1, 3, 2, [[
            ("map", 0, 0, 2, "rw", None), ("map", 0, 2, 2, "rw", (1, 0)), ("store", 0, 0, 1, 5), ("store", 0, 3, 0, 6),
            ("fork", 0), ("store", 0, 0, 1, 7), ("store", 0, 1, 0, 8), ("store", 0, 1, 0, 0),
        ]])
        self.assertIs(world.settle(400), True)
        self.assertEqual(first_fault(world.memory, world.kernel), "")
        pages = {0: ("rw", None), 1: ("rw", None), 2: ("rw", (1, 0)), 3: ("rw", (1, 1))}
        self.assertEqual(shown(world.memory, world.kernel), {
            "spaces": {0: (pages, {(0, 1): 7}), 1: (pages, {(0, 1): 5})}, "files": {(1, 1, 0): 6},
        })


class WithoutZerosTest(unittest.TestCase):
    def check(self, plain, expected):
        before = copy.deepcopy(plain)
        found = without_zeros(plain)
        self.assertEqual((found, plain), (expected, before))
        # What was returned is a state of its own.
        for pages, cells in plain["spaces"].values():
            pages[7] = ("r", None)
            cells[(7, 0)] = 9
        plain["files"][(0, 0, 0)] = 9
        self.assertEqual(found, expected)

    def test_cells(self):
        pages = {1: ("rw", None), 2: ("r", (0, 1))}
        self.check({"spaces": {}, "files": {}}, {"spaces": {}, "files": {}})
        self.check({"spaces": {0: ({}, {})}, "files": {}}, {"spaces": {0: ({}, {})}, "files": {}})
        self.check({
            "spaces": {0: (dict(pages), {(1, 0): 0, (1, 1): 5}), 3: (dict(pages), {(1, 0): 0}), 1: ({}, {})},
            "files": {(0, 1, 0): 0, (0, 1, 1): -6, (1, 3, 0): 0, (1, 3, 1): 7},
        }, {
            "spaces": {0: (pages, {(1, 1): 5}), 3: (pages, {}), 1: ({}, {})},
            "files": {(0, 1, 1): -6, (1, 3, 1): 7},
        })

    def test_a_state_without_zeros(self):
        self.check(copy.deepcopy(GOOD), copy.deepcopy(GOOD))


if __name__ == "__main__":
    unittest.main()
