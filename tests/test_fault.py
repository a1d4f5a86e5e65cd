"""Points 30 to 36: making a page ready."""

import unittest

from frametally.fault import Readying
from frametally.kernel import Locking
from frametally.machines import Stack
from tests.interface import check_machine
from tests.play import (
    file_value, fill, fill_block, fillings, frame_values, invalidation, kernel_state, new_kernel, reads, run,
    run_carefully, state_of, swap_value, word, words, writes,
)

PRIVATE = (0, 8, "rw", None)
PRIVATE_R = (0, 8, "r", None)
# Page 2 is page 1 of file 1.
SHARED = (1, 3, "rw", (1, 0))
SHARED_R = (1, 3, "r", (1, 0))
FILE_1 = ("file", 1, 1)


def kernel_with(area, processors=2, frames=3, blocks=2):
    """A kernel in which each space exists and has this one area."""
    kernel = new_kernel(processors, frames, blocks)
    kernel.spaces = {space: [area] for space in range(4)}
    return kernel


def ready(kernel, processor, pair, writing):
    """Makes a page ready. Returns the frame and the list of the requests that were made for it."""
    return run(kernel.memory, processor, Readying(kernel, processor, pair, writing, word(kernel, pair)))


def owners(kernel):
    """The owners of all frames."""
    return [kernel.frames.owners(frame) for frame in range(kernel.sizes.frames)]


def block_owners(kernel):
    return [kernel.blocks.owners(block) for block in range(kernel.sizes.blocks)]


def uses(area):
    """The two values of `writing`, of which an area with the rights "r" takes one."""
    return (False, True) if area[2] == "rw" else (False,)


def eviction(kernel, processor, ticket, pairs, frame, block, values):
    """The accesses of the eviction of a private frame."""
    expected = writes(kernel, pairs, ("swap", block)) + invalidation(kernel, processor, ticket, pairs)
    return expected + reads(kernel, frame) + [("write", kernel.sizes.swap_block(block), values)]


class InterfaceTest(unittest.TestCase):
    def test_names_and_arguments(self):
        check_machine(self, Readying, "frametally.fault", ["kernel", "processor", "pair", "writing", "word"])


class NowherePrivateTest(unittest.TestCase):
    """Point 32."""

    def check(self, area, processors, processor, writing):
        kernel = kernel_with(area, processors)
        for cell in range(6):
            kernel.memory.access(0, ("write", kernel.sizes.frame_cell(0, 0) + cell, 90 + cell))
        fill(kernel, 0, [(1, 1)], (5, 6))
        frame, made = ready(kernel, processor, (0, 2), writing)
        wanted = ("frame", 1, area[2] == "rw")
        self.assertEqual(frame, 1)
        self.assertEqual(made, fillings(kernel, 1, (0, 0)) + writes(kernel, [(0, 2)], wanted))
        self.assertEqual(words(kernel), {(1, 1): ("frame", 0, False), (0, 2): wanted})
        self.assertEqual([frame_values(kernel, frame) for frame in range(3)], [(5, 6), (0, 0), (94, 95)])
        self.assertEqual(owners(kernel), [[(1, 1)], [(0, 2)], []])
        self.assertEqual((kernel.frames.in_hands(), kernel.blocks.free(), kernel.ticket), ([], [0, 1], 0))

    def test_a_free_frame(self):
        for area in (PRIVATE, PRIVATE_R):
            for writing in uses(area):
                for processors in (1, 2, 3):
                    self.check(area, processors, processors - 1, writing)

    def test_the_rights_are_those_of_the_area_of_the_page(self):
        kernel = new_kernel(1, 4, 0)
        kernel.spaces = {0: [(0, 2, "r", None), (2, 1, "rw", None), (5, 3, "r", None)]}
        for frame, (page, writable) in enumerate(((1, False), (2, True), (5, False))):
            self.assertEqual(ready(kernel, 0, (0, page), False)[0], frame)
            self.assertEqual(word(kernel, (0, page)), ("frame", frame, writable))

    def test_a_frame_that_is_evicted(self):
        for writing in (False, True):
            kernel = kernel_with(PRIVATE, 2, 2, 1)
            fill(kernel, 0, [(0, 1), (2, 1)], (5, 6))
            fill(kernel, 1, [(0, 3)], (7, 8), writable=True)
            frame, made = ready(kernel, 1, (0, 2), writing)
            expected = eviction(kernel, 1, 1, [(0, 1), (2, 1)], 0, 0, (5, 6))
            expected += fillings(kernel, 0, (0, 0)) + writes(kernel, [(0, 2)], ("frame", 0, True))
            self.assertEqual((frame, made), (0, expected))
            self.assertEqual(words(kernel), {
                (0, 1): ("swap", 0), (2, 1): ("swap", 0), (0, 2): ("frame", 0, True), (0, 3): ("frame", 1, True),
            })
            self.assertEqual((owners(kernel), block_owners(kernel)), ([[(0, 2)], [(0, 3)]], [[(0, 1), (2, 1)]]))
            self.assertEqual((frame_values(kernel, 0), swap_value(kernel, 0)), ((0, 0), (5, 6)))
            self.assertEqual((kernel.frames.in_hands(), kernel.blocks.in_hands()), ([], []))

    def test_the_page_becomes_an_owner_behind_the_values_and_ahead_of_the_word(self):
        kernel = kernel_with(PRIVATE)
        stack = Stack(Readying(kernel, 0, (0, 2), False, None))
        for held, found in (([0], []), ([], [(0, 2)])):
            stack.step(kernel.memory, 0)
            self.assertEqual((kernel.frames.in_hands(), kernel.frames.owners(0)), (held, found))
            self.assertIsNone(word(kernel, (0, 2)))
        stack.step(kernel.memory, 0)
        self.assertEqual((stack.ended(), stack.value(), word(kernel, (0, 2))), (True, 0, ("frame", 0, True)))


class SharedTest(unittest.TestCase):
    """Point 31."""

    def shared(self, area, old, processors=2):
        kernel = kernel_with(area, processors)
        kernel.memory.access(0, ("write", kernel.word_cell((0, 2)), old))
        for page in range(4):
            kernel.memory.access(0, ("write", kernel.sizes.file_block(1, page), (10 + page, 20 + page)))
        return kernel

    def test_a_page_that_is_not_cached(self):
        for area in (SHARED, SHARED_R):
            for old in (None, FILE_1):
                for writing in uses(area):
                    for processors in (1, 3):
                        kernel = self.shared(area, old, processors)
                        frame, made = ready(kernel, 0, (0, 2), writing)
                        wanted = ("frame", 0, area[2] == "rw")
                        expected = [("read", kernel.sizes.file_block(1, 1))] + fillings(kernel, 0, (11, 21))
                        self.assertEqual((frame, made), (0, expected + writes(kernel, [(0, 2)], wanted)))
                        self.assertEqual(words(kernel), {(0, 2): wanted})
                        self.assertEqual(owners(kernel), [[FILE_1, (0, 2)], [], []])
                        self.assertEqual((kernel.cached(1, 1), frame_values(kernel, 0)), (0, (11, 21)))
                        self.assertEqual((kernel.frames.in_hands(), kernel.ticket), ([], 0))
                        self.assertEqual(file_value(kernel, 1, 1), (11, 21))

    def test_a_page_that_is_cached(self):
        for area in (SHARED, SHARED_R):
            for old in (None, FILE_1):
                for writing in uses(area):
                    kernel = self.shared(area, old)
                    fill(kernel, 1, [FILE_1, (3, 2)], (5, 6), writable=True)
                    frame, made = ready(kernel, 0, (0, 2), writing)
                    wanted = ("frame", 1, area[2] == "rw")
                    self.assertEqual((frame, made), (1, writes(kernel, [(0, 2)], wanted)))
                    self.assertEqual(words(kernel), {(0, 2): wanted, (3, 2): ("frame", 1, True)})
                    self.assertEqual(owners(kernel), [[], [FILE_1, (3, 2), (0, 2)], []])
                    self.assertEqual((frame_values(kernel, 1), kernel.frames.in_hands()), ((5, 6), []))

    def test_each_page_of_the_area(self):
        for area, pages in (((1, 3, "rw", (1, 0)), {1: 0, 2: 1, 3: 2}), ((4, 4, "r", (1, 0)), {4: 0, 5: 1, 6: 2, 7: 3}),
                            ((0, 2, "rw", (1, 2)), {0: 2, 1: 3})):
            kernel = self.shared(area, None)
            kernel.memory.access(0, ("write", kernel.word_cell((0, 2)), None))
            for page, file_page in pages.items():
                frame, _ = ready(kernel, 0, (2, page), False)
                self.assertEqual(kernel.cached(1, file_page), frame)
                self.assertEqual(frame_values(kernel, frame), (10 + file_page, 20 + file_page))
                self.assertEqual(kernel.frames.owners(frame), [("file", 1, file_page), (2, page)])

    def test_other_pages_of_files_do_not_count(self):
        kernel = self.shared(SHARED, None)
        fill(kernel, 0, [("file", 0, 1)], (5, 6))
        fill(kernel, 1, [("file", 1, 0), (0, 1)], (7, 8))
        self.assertEqual(ready(kernel, 0, (0, 2), True)[0], 2)
        self.assertEqual(owners(kernel), [[("file", 0, 1)], [("file", 1, 0), (0, 1)], [FILE_1, (0, 2)]])

    def test_a_frame_that_is_evicted(self):
        kernel = self.shared(SHARED, FILE_1, 3)
        fill(kernel, 0, [("file", 1, 3), (1, 4)], (5, 6))
        fill(kernel, 1, [(0, 6)], (7, 8))
        fill(kernel, 2, [(0, 7)], (9, 10))
        frame, made = ready(kernel, 2, (0, 2), True)
        expected = writes(kernel, [(1, 4)], ("file", 1, 3)) + invalidation(kernel, 2, 1, [(1, 4)])
        expected += reads(kernel, 0) + [("write", kernel.sizes.file_block(1, 3), (5, 6))]
        expected += [("read", kernel.sizes.file_block(1, 1))] + fillings(kernel, 0, (11, 21))
        expected += writes(kernel, [(0, 2)], ("frame", 0, True))
        self.assertEqual((frame, made), (0, expected))
        self.assertEqual(owners(kernel), [[FILE_1, (0, 2)], [(0, 6)], [(0, 7)]])

    def test_the_frame_caches_the_page_behind_the_values_and_ahead_of_the_word(self):
        kernel = self.shared(SHARED, FILE_1)
        stack = Stack(Readying(kernel, 0, (0, 2), False, FILE_1))
        for held, found in (([0], []), ([0], []), ([], [FILE_1, (0, 2)])):
            stack.step(kernel.memory, 0)
            self.assertEqual((kernel.frames.in_hands(), kernel.frames.owners(0)), (held, found))
            self.assertEqual(word(kernel, (0, 2)), FILE_1)
        stack.step(kernel.memory, 0)
        self.assertEqual((stack.ended(), stack.value(), word(kernel, (0, 2))), (True, 0, ("frame", 0, True)))


class SwapTest(unittest.TestCase):
    """Point 33."""

    def test_one_owner(self):
        for area in (PRIVATE, PRIVATE_R):
            for writing in uses(area):
                for processors in (1, 3):
                    kernel = kernel_with(area, processors)
                    fill_block(kernel, 0, [(1, 1)], (3, 4))
                    fill_block(kernel, 1, [(0, 2)], (5, 6))
                    frame, made = ready(kernel, 0, (0, 2), writing)
                    wanted = ("frame", 0, area[2] == "rw")
                    expected = [("read", kernel.sizes.swap_block(1))] + writes(kernel, [(0, 2)], ("held",))
                    expected += fillings(kernel, 0, (5, 6)) + writes(kernel, [(0, 2)], wanted)
                    self.assertEqual((frame, made), (0, expected))
                    self.assertEqual(words(kernel), {(1, 1): ("swap", 0), (0, 2): wanted})
                    self.assertEqual((owners(kernel), block_owners(kernel)), ([[(0, 2)], [], []], [[(1, 1)], []]))
                    self.assertEqual((kernel.blocks.free(), kernel.frames.in_hands()), ([1], []))
                    self.assertEqual((frame_values(kernel, 0), kernel.ticket), ((5, 6), 0))

    def test_several_owners(self):
        pairs = [(3, 2), (0, 2), (1, 2)]
        for area in (PRIVATE, PRIVATE_R):
            for pair in pairs:
                kernel = kernel_with(area, 2)
                fill_block(kernel, 0, pairs, (5, 6))
                frame, made = ready(kernel, 0, pair, False)
                expected = [("read", kernel.sizes.swap_block(0))] + writes(kernel, pairs, ("held",))
                expected += fillings(kernel, 0, (5, 6)) + writes(kernel, pairs, ("frame", 0, False))
                self.assertEqual((frame, made), (0, expected))
                self.assertEqual(words(kernel), {owner: ("frame", 0, False) for owner in pairs})
                self.assertEqual((owners(kernel), block_owners(kernel)), ([pairs, [], []], [[], []]))
                self.assertEqual((kernel.blocks.free(), kernel.frames.in_hands()), ([0, 1], []))

    def test_several_owners_of_which_one_writes(self):
        pairs = [(3, 2), (0, 2)]
        for processors in (1, 2, 3):
            kernel = kernel_with(PRIVATE, processors)
            fill_block(kernel, 0, pairs, (5, 6))
            frame, made = ready(kernel, 0, (0, 2), True)
            expected = [("read", kernel.sizes.swap_block(0))] + writes(kernel, pairs, ("held",))
            expected += fillings(kernel, 0, (5, 6)) + writes(kernel, pairs, ("frame", 0, False))
            expected += reads(kernel, 0) + fillings(kernel, 1, (5, 6)) + writes(kernel, [(0, 2)], None)
            expected += invalidation(kernel, 0, 1, [(0, 2)]) + writes(kernel, [(0, 2)], ("frame", 1, True))
            self.assertEqual((frame, made), (1, expected))
            self.assertEqual(words(kernel), {(3, 2): ("frame", 0, False), (0, 2): ("frame", 1, True)})
            self.assertEqual(owners(kernel), [[(3, 2)], [(0, 2)], []])

    def test_the_block_is_free_for_the_frame_that_must_be_evicted(self):
        kernel = kernel_with(PRIVATE, 2, 2, 1)
        fill(kernel, 0, [(1, 1)], (1, 2), writable=True)
        fill(kernel, 1, [(1, 3)], (3, 4), writable=True)
        fill_block(kernel, 0, [(0, 2)], (5, 6))
        frame, made = ready(kernel, 0, (0, 2), True)
        expected = [("read", kernel.sizes.swap_block(0))] + writes(kernel, [(0, 2)], ("held",))
        expected += eviction(kernel, 0, 1, [(1, 1)], 0, 0, (1, 2))
        expected += fillings(kernel, 0, (5, 6)) + writes(kernel, [(0, 2)], ("frame", 0, True))
        self.assertEqual((frame, made), (0, expected))
        self.assertEqual(words(kernel), {
            (0, 2): ("frame", 0, True), (1, 1): ("swap", 0), (1, 3): ("frame", 1, True),
        })
        self.assertEqual((swap_value(kernel, 0), frame_values(kernel, 0)), ((1, 2), (5, 6)))
        self.assertEqual((owners(kernel), block_owners(kernel)), ([[(0, 2)], [(1, 3)]], [[(1, 1)]]))

    def test_the_owners_move_step_by_step(self):
        pairs = [(3, 2), (0, 2)]
        kernel = kernel_with(PRIVATE, 1)
        fill_block(kernel, 0, pairs, (5, 6))
        stack = Stack(Readying(kernel, 0, (0, 2), False, ("swap", 0)))
        # Behind each access: the owners of the block, those of the frame, and whether it is in the hands.
        for of_block, of_frame, held in (
            (pairs, [], []), (pairs, [], []), ([], [], [0]), ([], [], [0]), ([], [(3, 2)], []), ([], pairs, []),
            ([], pairs, []),
        ):
            self.assertIs(stack.step(kernel.memory, 0), True)
            found = (kernel.blocks.owners(0), kernel.frames.owners(0), kernel.frames.in_hands())
            self.assertEqual(found, (of_block, of_frame, held))
        self.assertEqual((stack.ended(), stack.value()), (True, 0))


class FrameTest(unittest.TestCase):
    """Point 34."""

    def check_nothing(self, area, found, writable, writing):
        kernel = kernel_with(area)
        fill(kernel, 1, found, (5, 6), writable)
        before = (state_of(kernel.memory), kernel_state(kernel))
        stack = Stack(Readying(kernel, 0, (0, 2), writing, word(kernel, (0, 2))))
        self.assertIs(stack.step(kernel.memory, 0), False)
        self.assertEqual((stack.ended(), stack.value()), (True, 1))
        self.assertEqual((state_of(kernel.memory), kernel_state(kernel)), before)

    def test_reading(self):
        for area in (PRIVATE, PRIVATE_R):
            self.check_nothing(area, [(0, 2)], False, False)
            self.check_nothing(area, [(1, 2), (0, 2)], False, False)
        self.check_nothing(PRIVATE, [(0, 2)], True, False)
        for area in (SHARED, SHARED_R):
            self.check_nothing(area, [FILE_1, (0, 2)], False, False)
        self.check_nothing(SHARED, [FILE_1, (0, 2), (1, 2)], True, False)

    def test_writing_with_the_right(self):
        self.check_nothing(PRIVATE, [(0, 2)], True, True)
        self.check_nothing(SHARED, [FILE_1, (0, 2)], True, True)
        self.check_nothing(SHARED, [FILE_1, (1, 2), (0, 2)], True, True)

    def check_one_word(self, area, found):
        for processors in (1, 3):
            kernel = kernel_with(area, processors)
            fill(kernel, 1, found, (5, 6))
            others = words(kernel)
            frame, made = ready(kernel, 0, (0, 2), True)
            self.assertEqual((frame, made), (1, writes(kernel, [(0, 2)], ("frame", 1, True))))
            self.assertEqual(words(kernel), {**others, (0, 2): ("frame", 1, True)})
            self.assertEqual((owners(kernel), frame_values(kernel, 1)), ([[], found, []], (5, 6)))
            self.assertEqual((kernel.ticket, kernel.frames.in_hands()), (0, []))

    def test_a_page_that_is_the_only_owner(self):
        self.check_one_word(PRIVATE, [(0, 2)])

    def test_a_shared_page(self):
        self.check_one_word(SHARED, [FILE_1, (0, 2)])
        self.check_one_word(SHARED, [FILE_1, (1, 2), (0, 2)])
        self.check_one_word(SHARED, [(1, 2), (0, 2), FILE_1])

    def test_a_copy(self):
        for processors in (1, 2, 3):
            for processor in range(processors):
                for found in ([(0, 2), (1, 2)], [(3, 2), (0, 2), (1, 2)]):
                    kernel = kernel_with(PRIVATE, processors)
                    fill(kernel, 1, found, (5, 6))
                    frame, made = ready(kernel, processor, (0, 2), True)
                    expected = reads(kernel, 1) + fillings(kernel, 0, (5, 6)) + writes(kernel, [(0, 2)], None)
                    expected += invalidation(kernel, processor, 1, [(0, 2)])
                    expected += writes(kernel, [(0, 2)], ("frame", 0, True))
                    self.assertEqual((frame, made), (0, expected))
                    left = [pair for pair in found if pair != (0, 2)]
                    self.assertEqual(words(kernel), {
                        **{pair: ("frame", 1, False) for pair in left}, (0, 2): ("frame", 0, True),
                    })
                    self.assertEqual(owners(kernel), [[(0, 2)], left, []])
                    self.assertEqual((frame_values(kernel, 0), frame_values(kernel, 1)), ((5, 6), (5, 6)))
                    self.assertEqual((kernel.frames.in_hands(), kernel.ticket), ([], 1))

    def test_a_copy_passes_over_the_old_frame(self):
        # The hand points to the old frame.
        kernel = kernel_with(PRIVATE, 2, 2, 1)
        fill(kernel, 0, [(0, 2), (1, 2)], (5, 6))
        fill(kernel, 1, [(0, 3)], (7, 8), writable=True)
        frame, made = ready(kernel, 0, (0, 2), True)
        expected = eviction(kernel, 0, 1, [(0, 3)], 1, 0, (7, 8))
        expected += reads(kernel, 0) + fillings(kernel, 1, (5, 6)) + writes(kernel, [(0, 2)], None)
        expected += invalidation(kernel, 0, 2, [(0, 2)]) + writes(kernel, [(0, 2)], ("frame", 1, True))
        self.assertEqual((frame, made), (1, expected))
        self.assertEqual((owners(kernel), block_owners(kernel)), ([[(1, 2)], [(0, 2)]], [[(0, 3)]]))
        self.assertEqual(kernel.hand.points_to(), 0)

    def test_the_other_owner_may_write_behind_a_copy(self):
        kernel = kernel_with(PRIVATE)
        fill(kernel, 1, [(0, 2), (1, 2)], (5, 6))
        ready(kernel, 0, (0, 2), True)
        self.assertEqual(ready(kernel, 1, (1, 2), True), (1, writes(kernel, [(1, 2)], ("frame", 1, True))))

    def test_a_copy_moves_the_page_step_by_step(self):
        kernel = kernel_with(PRIVATE, 2)
        memory = kernel.memory
        fill(kernel, 0, [(0, 2), (1, 2)], (5, 6))
        for processor in (0, 1):
            memory.access(processor, ("walk", 0, 2))
            memory.access(processor, ("walk", 1, 2))
        stack = Stack(Readying(kernel, 0, (0, 2), True, ("frame", 0, False)))
        self.assertEqual(kernel.frames.in_hands(), [1])
        for _ in range(4):
            stack.step(memory, 0)
            self.assertEqual(word(kernel, (0, 2)), ("frame", 0, False))
            self.assertEqual(kernel.frames.owners(0), [(0, 2), (1, 2)])
        self.assertEqual((len(memory.buffers[0].entries()), kernel.ticket), (2, 0))
        # The word.
        stack.step(memory, 0)
        self.assertIsNone(word(kernel, (0, 2)))
        self.assertEqual((kernel.frames.owners(0), kernel.frames.in_hands()), ([(1, 2)], [1]))
        self.assertEqual((memory.buffers[0].entries(), kernel.ticket), ([(1, 2, 0, False)], 1))
        # The letter, and two looks at the acknowledge word ahead of the taking.
        for _ in range(3):
            stack.step(memory, 0)
            self.assertEqual(memory.boxes[1].letters(), [(1, ((0, 2),))])
            self.assertEqual(memory.access(1, ("load", 0, 2, 1))[0], (6,))
            self.assertEqual(kernel.frames.owners(1), [])
        memory.access(1, ("take",))
        self.assertIsNone(memory.access(1, ("load", 0, 2, 1))[0])
        # The acknowledgement.
        stack.step(memory, 0)
        self.assertEqual((kernel.frames.owners(1), kernel.frames.in_hands()), ([(0, 2)], []))
        self.assertIsNone(memory.access(1, ("walk", 0, 2))[0])
        stack.step(memory, 0)
        self.assertEqual((stack.ended(), stack.value()), (True, 1))
        self.assertEqual(memory.access(1, ("walk", 0, 2))[0], ("frame", 1, True))
        self.assertEqual(memory.buffers[0].entries(), [(1, 2, 0, False)])


class FailingTest(unittest.TestCase):
    """Point 35."""

    def check_as_it_was(self, kernel, pair, writing):
        before = (state_of(kernel.memory), kernel_state(kernel))
        stack = Stack(Readying(kernel, 0, pair, writing, word(kernel, pair)))
        self.assertIs(stack.step(kernel.memory, 0), False)
        self.assertEqual((stack.ended(), stack.value()), (True, None))
        self.assertEqual((state_of(kernel.memory), kernel_state(kernel)), before)

    def test_no_frame_for_a_private_page(self):
        for writing in (False, True):
            for processors in (1, 3):
                kernel = kernel_with(PRIVATE, processors, 2, 0)
                fill(kernel, 0, [(0, 1)], (5, 6))
                fill(kernel, 1, [(0, 3), (1, 3)], (7, 8))
                self.check_as_it_was(kernel, (0, 2), writing)

    def test_no_frame_because_the_blocks_are_full(self):
        kernel = kernel_with(PRIVATE, 2, 2, 1)
        fill(kernel, 0, [(0, 1)], (5, 6))
        fill(kernel, 1, [(0, 3)], (7, 8))
        fill_block(kernel, 0, [(0, 4)], (9, 10))
        self.check_as_it_was(kernel, (0, 2), False)

    def test_no_frame_for_a_page_of_a_file(self):
        for old in (None, FILE_1):
            kernel = kernel_with(SHARED, 2, 2, 0)
            kernel.memory.access(0, ("write", kernel.word_cell((0, 2)), old))
            fill(kernel, 0, [(0, 6)], (5, 6))
            fill(kernel, 1, [(0, 7)], (7, 8))
            self.check_as_it_was(kernel, (0, 2), False)
            self.check_as_it_was(kernel, (0, 2), True)

    def test_no_frame_for_a_copy(self):
        # The old frame could be evicted, but is passed over.
        for blocks, kind in ((0, (0, 5)), (1, None)):
            kernel = kernel_with(PRIVATE, 2, 2, blocks)
            fill(kernel, 0, [(0, 2), (1, 2)], (5, 6))
            if kind is None:
                kernel.frames.hold(1)
            else:
                fill(kernel, 1, [kind], (7, 8))
            self.check_as_it_was(kernel, (0, 2), True)

    def test_no_frame_for_a_copy_of_what_came_from_a_block(self):
        pairs = [(1, 2), (0, 2)]
        kernel = kernel_with(PRIVATE, 2, 2, 1)
        fill(kernel, 0, [(0, 5)], (7, 8))
        fill(kernel, 1, [(0, 6)], (9, 10))
        fill_block(kernel, 0, pairs, (5, 6))
        frame, made = ready(kernel, 0, (0, 2), True)
        self.assertIsNone(frame)
        expected = [("read", kernel.sizes.swap_block(0))] + writes(kernel, pairs, ("held",))
        expected += eviction(kernel, 0, 1, [(0, 5)], 0, 0, (7, 8))
        expected += fillings(kernel, 0, (5, 6)) + writes(kernel, pairs, ("frame", 0, False))
        self.assertEqual(made, expected)
        self.assertEqual(words(kernel), {
            (0, 2): ("frame", 0, False), (1, 2): ("frame", 0, False), (0, 5): ("swap", 0), (0, 6): ("frame", 1, False),
        })
        self.assertEqual((owners(kernel), block_owners(kernel)), ([pairs, [(0, 6)]], [[(0, 5)]]))
        self.assertEqual((kernel.frames.in_hands(), kernel.blocks.in_hands(), kernel.ticket), ([], [], 1))

    def test_a_copy_of_what_came_from_a_block_takes_the_block_that_is_free_by_that(self):
        pairs = [(1, 2), (0, 2)]
        kernel = kernel_with(PRIVATE, 2, 2, 1)
        fill(kernel, 0, [(0, 5)], (7, 8))
        fill_block(kernel, 0, pairs, (5, 6))
        frame, made = ready(kernel, 0, (0, 2), True)
        self.assertEqual(frame, 0)
        expected = [("read", kernel.sizes.swap_block(0))] + writes(kernel, pairs, ("held",))
        expected += fillings(kernel, 1, (5, 6)) + writes(kernel, pairs, ("frame", 1, False))
        expected += eviction(kernel, 0, 1, [(0, 5)], 0, 0, (7, 8))
        expected += reads(kernel, 1) + fillings(kernel, 0, (5, 6)) + writes(kernel, [(0, 2)], None)
        expected += invalidation(kernel, 0, 2, [(0, 2)]) + writes(kernel, [(0, 2)], ("frame", 0, True))
        self.assertEqual(made, expected)

    def test_the_page_may_have_come_into_a_frame(self):
        pairs = [(1, 2), (0, 2)]
        kernel = kernel_with(PRIVATE, 2, 2, 1)
        kernel.frames.hold(0)
        fill_block(kernel, 0, pairs, (5, 6))
        frame, made = ready(kernel, 0, (0, 2), True)
        self.assertIsNone(frame)
        expected = [("read", kernel.sizes.swap_block(0))] + writes(kernel, pairs, ("held",))
        expected += fillings(kernel, 1, (5, 6)) + writes(kernel, pairs, ("frame", 1, False))
        self.assertEqual(made, expected)
        self.assertEqual(words(kernel), {pair: ("frame", 1, False) for pair in pairs})
        self.assertEqual((owners(kernel), block_owners(kernel)), ([[], pairs], [[]]))
        self.assertEqual((kernel.frames.in_hands(), kernel.blocks.free(), kernel.ticket), ([0], [0], 0))


class OthersTest(unittest.TestCase):
    """Point 36, and what other processors see in between."""

    def play(self, kernel, machine, between):
        """Runs a machine of processor 0; `between` is called behind each of its accesses."""
        stack = Stack(machine)
        for _ in range(100):
            stack.step(kernel.memory, 0)
            between()
            if stack.ended():
                return stack.value()
            if kernel.memory.boxes[1].letters():
                kernel.memory.access(1, ("take",))
        raise AssertionError("the machine does not end")

    def test_nobody_writes_the_old_frame_of_a_copy(self):
        kernel = kernel_with(PRIVATE)
        memory = kernel.memory
        fill(kernel, 0, [(0, 2), (1, 2)], (5, 6))

        def write():
            for pair in ((0, 2), (1, 2)):
                memory.access(1, ("walk", *pair))
                if memory.access(1, ("store", *pair, 0, 99))[0]:
                    self.assertEqual((pair, word(kernel, pair)), ((0, 2), ("frame", 1, True)))

        self.assertEqual(self.play(kernel, Readying(kernel, 0, (0, 2), True, ("frame", 0, False)), write), 1)
        self.assertEqual((frame_values(kernel, 0), frame_values(kernel, 1)), ((5, 6), (99, 6)))

    def test_others_read_while_a_page_comes_from_a_block(self):
        kernel = kernel_with(PRIVATE)
        memory = kernel.memory
        fill_block(kernel, 0, [(0, 2), (1, 2)], (5, 6))
        seen = []

        def read():
            for pair in ((0, 2), (1, 2)):
                memory.access(1, ("walk", *pair))
                value = memory.access(1, ("load", *pair, 1))[0]
                self.assertIn(value, (None, (6,)))
                self.assertIs(memory.access(1, ("store", *pair, 0, 99))[0], False)
                seen.append(value)

        self.assertEqual(self.play(kernel, Readying(kernel, 0, (0, 2), False, ("swap", 0)), read), 0)
        self.assertEqual((seen[0], seen[-1]), (None, (6,)))

    def test_a_store_ahead_of_the_letter_is_in_the_evicted_page(self):
        kernel = kernel_with(PRIVATE, 2, 2, 1)
        memory = kernel.memory
        fill(kernel, 0, [(1, 1)], (5, 6), writable=True)
        fill(kernel, 1, [(1, 3)], (7, 8), writable=True)
        memory.access(1, ("walk", 1, 1))
        stack = Stack(Readying(kernel, 0, (0, 2), True, None))
        for _ in range(3):
            stack.step(memory, 0)
        self.assertIs(memory.access(1, ("store", 1, 1, 0, 50))[0], True)
        memory.access(1, ("take",))
        self.assertIs(memory.access(1, ("store", 1, 1, 0, 60))[0], False)
        while not stack.ended():
            stack.step(memory, 0)
        self.assertEqual((swap_value(kernel, 0), frame_values(kernel, 0)), ((50, 6), (0, 0)))

    def test_a_machine_can_wait_for_the_lock_meanwhile(self):
        kernel = kernel_with(PRIVATE, 2)
        memory = kernel.memory
        fill(kernel, 0, [(0, 2), (1, 2)], (5, 6))
        run(memory, 0, Locking(kernel, 0))
        other = Stack(Locking(kernel, 1))
        self.play(kernel, Readying(kernel, 0, (0, 2), True, ("frame", 0, False)), lambda: other.step(memory, 1))
        self.assertIs(other.ended(), False)
        self.assertEqual((memory.peek(0), kernel.ticket), (1, 1))


class CarefulTest(unittest.TestCase):
    """Point 14."""

    def test_asking_changes_nothing(self):
        for old in ("none", "file", "cached", "swap", "frame"):
            for writing in (False, True):
                kernel = kernel_with(SHARED if old in ("file", "cached") else PRIVATE, 3, 2, 2)
                fill(kernel, 0, [(1, 1)], (3, 4))
                if old == "cached":
                    fill(kernel, 1, [FILE_1, (0, 3)], (5, 6))
                if old == "swap":
                    fill_block(kernel, 1, [(0, 2), (3, 2)], (5, 6))
                if old == "frame":
                    fill(kernel, 1, [(0, 2), (3, 2)], (5, 6))
                machine = Readying(kernel, 0, (0, 2), writing, word(kernel, (0, 2)))
                frame = run_carefully(self, kernel, 0, machine)
                self.assertEqual(word(kernel, (0, 2)), ("frame", frame, writing or old not in ("swap", "frame")))


if __name__ == "__main__":
    unittest.main()
