"""Points 26 to 29: eviction, and the getting of a frame."""

import unittest

from frametally.evict import Evicting, Getting
from frametally.machines import Stack
from tests.interface import check_machine
from tests.play import (
    file_value, fill, invalidation, kernel_state, new_kernel, reads, requests_since, run, run_carefully, state_of,
    swap_value, word, writes,
)


class InterfaceTest(unittest.TestCase):
    def test_names_and_arguments(self):
        for cls in (Evicting, Getting):
            check_machine(self, cls, "frametally.evict", ["kernel", "processor", "passed_over"])


class PrivateFrameTest(unittest.TestCase):
    def check(self, processors, processor, owners):
        kernel = new_kernel(processors, 2, 2)
        fill(kernel, 0, owners, (5, 6))
        value, made = run(kernel.memory, processor, Evicting(kernel, processor, []))
        self.assertEqual(value, 0)
        expected = writes(kernel, owners, ("swap", 0))
        expected += invalidation(kernel, processor, 1, owners)
        expected += reads(kernel, 0) + [("write", kernel.sizes.swap_block(0), (5, 6))]
        self.assertEqual(made, expected)
        self.assertEqual([word(kernel, pair) for pair in owners], [("swap", 0)] * len(owners))
        self.assertEqual((swap_value(kernel, 0), swap_value(kernel, 1)), ((5, 6), (0, 0)))
        self.assertEqual((kernel.frames.free(), kernel.frames.in_hands()), ([0, 1], []))
        self.assertEqual((kernel.blocks.free(), kernel.blocks.in_hands()), ([1], []))
        self.assertEqual(kernel.blocks.owners(0), owners)
        self.assertEqual((kernel.hand.points_to(), kernel.ticket), (1, 1))

    def test_one_owner(self):
        for processors in (1, 2, 3):
            for processor in range(processors):
                self.check(processors, processor, [(0, 1)])

    def test_several_owners(self):
        for processors in (1, 2, 3):
            for owners in ([(2, 5), (0, 5)], [(0, 1), (3, 1), (1, 1)]):
                self.check(processors, processors - 1, owners)

    def test_the_least_free_block_is_taken(self):
        kernel = new_kernel(2, 2, 4)
        kernel.blocks.hold(0)
        kernel.blocks.hold(1)
        kernel.blocks.add(1, (3, 3))
        fill(kernel, 0, [(0, 1)], (5, 6))
        run(kernel.memory, 0, Evicting(kernel, 0, []))
        self.assertEqual(word(kernel, (0, 1)), ("swap", 2))
        self.assertEqual([kernel.blocks.owners(block) for block in range(4)], [[], [(3, 3)], [(0, 1)], []])
        self.assertEqual((kernel.blocks.in_hands(), kernel.blocks.free()), ([0], [3]))
        self.assertEqual([swap_value(kernel, block) for block in range(4)], [(0, 0), (0, 0), (5, 6), (0, 0)])

    def test_files_stay_as_they_are(self):
        kernel = new_kernel(2, 2, 1)
        fill(kernel, 0, [(0, 1)], (5, 6))
        run(kernel.memory, 0, Evicting(kernel, 0, []))
        blocks = [file_value(kernel, file, page) for file in range(2) for page in range(4)]
        self.assertEqual(blocks, [(0, 0)] * 8)


class FileFrameTest(unittest.TestCase):
    def check(self, processors, owners, pairs, blocks):
        kernel = new_kernel(processors, 2, blocks)
        fill(kernel, 0, owners, (5, 6), writable=True)
        value, made = run(kernel.memory, 0, Evicting(kernel, 0, []))
        self.assertEqual(value, 0)
        expected = writes(kernel, pairs, ("file", 1, 2))
        if pairs:
            expected += invalidation(kernel, 0, 1, pairs)
        expected += reads(kernel, 0) + [("write", kernel.sizes.file_block(1, 2), (5, 6))]
        self.assertEqual(made, expected)
        self.assertEqual([word(kernel, pair) for pair in pairs], [("file", 1, 2)] * len(pairs))
        found = {(file, page): file_value(kernel, file, page) for file in range(2) for page in range(4)}
        self.assertEqual({key for key, value in found.items() if value != (0, 0)}, {(1, 2)})
        self.assertEqual(found[(1, 2)], (5, 6))
        self.assertEqual((kernel.frames.free(), kernel.frames.in_hands()), ([0, 1], []))
        self.assertEqual((kernel.blocks.free(), kernel.blocks.in_hands()), (list(range(blocks)), []))
        self.assertEqual([swap_value(kernel, block) for block in range(blocks)], [(0, 0)] * blocks)
        self.assertIsNone(kernel.cached(1, 2))
        self.assertEqual((kernel.hand.points_to(), kernel.ticket), (1, 1 if pairs else 0))

    def test_without_another_owner(self):
        for processors in (1, 2, 3):
            for blocks in (0, 2):
                self.check(processors, [("file", 1, 2)], [], blocks)

    def test_with_one_other_owner(self):
        for processors in (1, 2, 3):
            for blocks in (0, 2):
                self.check(processors, [("file", 1, 2), (0, 1)], [(0, 1)], blocks)

    def test_with_several_other_owners(self):
        for processors in (1, 2, 3):
            self.check(processors, [("file", 1, 2), (3, 0), (0, 7), (0, 1)], [(3, 0), (0, 7), (0, 1)], 1)

    def test_wherever_the_page_of_the_file_stands_among_them(self):
        self.check(2, [(3, 0), ("file", 1, 2), (0, 1)], [(3, 0), (0, 1)], 1)
        self.check(2, [(3, 0), (0, 1), ("file", 1, 2)], [(3, 0), (0, 1)], 0)


class VictimTest(unittest.TestCase):
    """Point 26."""

    def full(self, blocks, kinds):
        """A kernel with a frame for each sign: p private, f for a page of a file, h in the hands, - free."""
        kernel = new_kernel(2, len(kinds), blocks)
        for frame, kind in enumerate(kinds):
            if kind == "p":
                fill(kernel, frame, [(0, frame)], (frame, 10))
            if kind == "f":
                fill(kernel, frame, [("file", 0, frame), (1, frame)], (frame, 20))
            if kind == "h":
                kernel.frames.hold(frame)
        return kernel

    def check(self, kernel, passed_over, victim):
        free = kernel.frames.free()
        passed = list(passed_over)
        self.assertEqual(run(kernel.memory, 1, Evicting(kernel, 1, passed_over))[0], victim)
        self.assertEqual(kernel.frames.free(), sorted(free + [victim]))
        self.assertEqual(kernel.hand.points_to(), (victim + 1) % kernel.sizes.frames)
        self.assertEqual(passed_over, passed)

    def check_none(self, kernel, passed_over):
        before = (state_of(kernel.memory), kernel_state(kernel))
        stack = Stack(Evicting(kernel, 1, passed_over))
        self.assertEqual((state_of(kernel.memory), kernel_state(kernel)), before)
        self.assertIs(stack.step(kernel.memory, 1), False)
        self.assertEqual((stack.ended(), stack.value()), (True, None))
        self.assertEqual((state_of(kernel.memory), kernel_state(kernel)), before)

    def test_the_hand_goes_round(self):
        kernel = self.full(4, "pfpf")
        for victim in (0, 1, 2, 3):
            self.check(kernel, [], victim)
        self.check_none(kernel, [])

    def test_frames_without_owners_are_passed_over(self):
        kernel = self.full(4, "h-p-hf")
        self.check(kernel, [], 2)
        self.check(kernel, [], 5)
        self.check_none(kernel, [])
        self.assertEqual(kernel.frames.in_hands(), [0, 4])

    def test_frames_that_it_is_told_to_pass_over(self):
        kernel = self.full(4, "pfp")
        self.check(kernel, [0, 1], 2)
        self.check(kernel, [0], 1)
        self.check_none(kernel, [0])
        self.check(kernel, [1, 2, 7, -1], 0)

    def test_without_a_free_block_private_frames_are_passed_over(self):
        kernel = self.full(0, "ppfpf")
        self.check(kernel, [], 2)
        self.check(kernel, [], 4)
        self.check_none(kernel, [])

    def test_without_a_free_block_the_list_counts_too(self):
        kernel = self.full(0, "fpf")
        self.check_none(kernel, [2, 0])
        self.check(kernel, [0], 2)
        self.check_none(kernel, [0])
        self.check(kernel, [], 0)

    def test_the_last_free_block(self):
        kernel = self.full(1, "pppf")
        self.check(kernel, [], 0)
        self.check(kernel, [], 3)
        self.check_none(kernel, [])

    def test_a_block_in_the_hands_is_not_free(self):
        kernel = self.full(1, "pp")
        kernel.blocks.take()
        self.check_none(kernel, [])
        kernel.blocks.give_back(0)
        self.check(kernel, [], 0)

    def test_no_victim_at_all(self):
        for blocks, kinds, passed_over in (
            (4, "--", []), (4, "hh", []), (0, "pp", []), (0, "ph-", []), (4, "pf", [1, 0]), (4, "pfh", [0, 1, 2]),
            (0, "pf", [1]), (12, "p" * 12, list(range(12))),
        ):
            self.check_none(self.full(blocks, kinds), passed_over)

    def test_no_victim_behind_another_one(self):
        kernel = self.full(1, "ppp")
        self.check(kernel, [0], 1)
        # The hand stays where it was.
        self.check_none(kernel, [])
        self.assertEqual(kernel.hand.points_to(), 2)

    def test_the_victim_is_chosen_and_the_block_taken_when_it_is_made(self):
        kernel = self.full(3, "hpf")
        before = state_of(kernel.memory)
        machine = Evicting(kernel, 1, [])
        self.assertEqual((kernel.hand.points_to(), kernel.blocks.in_hands(), kernel.blocks.free()), (2, [0], [1, 2]))
        self.assertEqual(kernel.frames.owners(1), [(0, 1)])
        self.assertEqual(state_of(kernel.memory), before)
        # What changes behind that does not matter.
        kernel.blocks.hold(1)
        self.assertEqual(run(kernel.memory, 1, machine)[0], 1)
        self.assertEqual(kernel.blocks.owners(0), [(0, 1)])
        machine = Evicting(kernel, 1, [])
        self.assertEqual((kernel.hand.points_to(), kernel.blocks.in_hands()), (0, [1]))
        self.assertEqual(run(kernel.memory, 1, machine)[0], 2)


class OrderTest(unittest.TestCase):
    """Points 27 and 28: what stands where between two accesses."""

    def walk(self, kernel, processor, pair):
        kernel.memory.access(processor, ("walk", *pair))

    def check_owners(self, owners, pairs, places):
        kernel = new_kernel(2, 2, 1)
        fill(kernel, 0, owners, (5, 6))
        stack = Stack(Evicting(kernel, 0, []))
        writing = ("write", places(kernel.sizes), (5, 6))
        steps = 0
        while not stack.ended():
            self.assertEqual(kernel.frames.owners(0), owners)
            self.assertEqual(kernel.ticket, 0 if steps < len(pairs) else 1)
            before = kernel.memory.count
            self.assertIs(stack.step(kernel.memory, 0), True)
            steps += 1
            if kernel.memory.boxes[1].letters():
                kernel.memory.access(1, ("take",))
            last = requests_since(kernel.memory, before)[0]
            self.assertIs(stack.ended(), last == (0, writing))
        self.assertEqual(steps, len(pairs) + 5)
        self.assertEqual(kernel.frames.owners(0), [])

    def test_the_frame_loses_its_owners_behind_the_last_access(self):
        self.check_owners([(0, 1), (2, 1)], [(0, 1), (2, 1)], lambda sizes: sizes.swap_block(0))
        self.check_owners([("file", 0, 3), (2, 1)], [(2, 1)], lambda sizes: sizes.file_block(0, 3))

    def test_the_own_entries_are_dropped_behind_the_last_word(self):
        kernel = new_kernel(2, 2, 1)
        fill(kernel, 1, [(0, 1), (2, 1)], (5, 6))
        self.walk(kernel, 0, (0, 1))
        self.walk(kernel, 0, (2, 1))
        stack = Stack(Evicting(kernel, 0, []))
        stack.step(kernel.memory, 0)
        self.assertEqual(len(kernel.memory.buffers[0].entries()), 2)
        stack.step(kernel.memory, 0)
        self.assertEqual(kernel.memory.buffers[0].entries(), [])
        self.assertEqual((kernel.ticket, kernel.memory.boxes[1].letters()), (1, []))

    def test_a_store_through_an_old_entry_comes_to_the_block(self):
        for owners, pair, place in (
            ([(0, 1)], (0, 1), "swap"), ([("file", 1, 0), (3, 2)], (3, 2), "file"),
        ):
            for steps in range(5):
                kernel = new_kernel(2, 2, 1)
                memory = kernel.memory
                fill(kernel, 1, owners, (5, 6), writable=True)
                self.walk(kernel, 1, pair)
                stack = Stack(Evicting(kernel, 0, []))
                # The word, the letter, and looks at the acknowledge word, which is not written yet.
                for _ in range(steps):
                    stack.step(memory, 0)
                self.assertIs(memory.access(1, ("store", *pair, 1, 9))[0], True)
                while not memory.boxes[1].letters():
                    stack.step(memory, 0)
                memory.access(1, ("take",))
                self.assertIs(memory.access(1, ("store", *pair, 1, 10))[0], False)
                while not stack.ended():
                    stack.step(memory, 0)
                found = swap_value(kernel, 0) if place == "swap" else file_value(kernel, 1, 0)
                self.assertEqual(found, (5, 9))

    def test_behind_it_nobody_leads_to_the_frame(self):
        kernel = new_kernel(3, 3, 2)
        fill(kernel, 1, [(0, 1), (2, 1)], (5, 6))
        fill(kernel, 2, [(0, 3)], (7, 8), writable=True)
        for processor in range(3):
            self.walk(kernel, processor, ((0, 1), (2, 1), (0, 1))[processor])
            self.walk(kernel, processor, (0, 3))
        self.assertEqual(run(kernel.memory, 1, Evicting(kernel, 1, []))[0], 1)
        self.assertEqual([buffer.entries() for buffer in kernel.memory.buffers], [[(0, 3, 2, True)]] * 3)
        words = [kernel.memory.peek(kernel.sizes.word(space, page)) for space in range(4) for page in range(8)]
        self.assertEqual([value for value in words if value], [("swap", 0), ("frame", 2, True), ("swap", 0)])

    def test_the_values_are_read_behind_the_invalidation(self):
        kernel = new_kernel(1, 2, 1)
        fill(kernel, 0, [(0, 1)], (None, ()))
        self.assertEqual(run(kernel.memory, 0, Evicting(kernel, 0, []))[1], [
            ("write", kernel.word_cell((0, 1)), ("swap", 0)), *reads(kernel, 0),
            ("write", kernel.sizes.swap_block(0), (None, ())),
        ])


class CarefulTest(unittest.TestCase):
    """Point 14."""

    def test_asking_changes_nothing(self):
        for cls in (Evicting, Getting):
            for owners in ([(0, 1), (2, 1)], [("file", 0, 3), (2, 1)]):
                kernel = new_kernel(3, 2, 1)
                fill(kernel, 0, owners, (5, 6))
                fill(kernel, 1, [("file", 1, 0)], (7, 8))
                self.assertEqual(run_carefully(self, kernel, 1, cls(kernel, 1, [])), 0)


class GettingTest(unittest.TestCase):
    def check_at_once(self, kernel, passed_over, frame):
        """The getting of a free frame, which is taken when the machine is made."""
        before = state_of(kernel.memory)
        hand, hands = kernel.hand.points_to(), kernel.frames.in_hands()
        stack = Stack(Getting(kernel, 0, passed_over))
        self.assertEqual(kernel.frames.in_hands(), sorted(hands + [frame]))
        self.assertIs(stack.step(kernel.memory, 0), False)
        self.assertEqual((stack.ended(), stack.value()), (True, frame))
        self.assertEqual(kernel.frames.in_hands(), sorted(hands + [frame]))
        self.assertEqual((state_of(kernel.memory), kernel.hand.points_to()), (before, hand))

    def test_the_least_free_frame(self):
        kernel = new_kernel(2, 4, 1)
        fill(kernel, 1, [(0, 1)], (5, 6))
        self.check_at_once(kernel, [], 0)
        # A list of frames to pass over is one for the eviction.
        self.check_at_once(kernel, [2], 2)
        self.check_at_once(kernel, [1, 3], 3)

    def test_by_an_eviction(self):
        for processors in (1, 2, 3):
            kernel = new_kernel(processors, 2, 2)
            fill(kernel, 0, [(0, 1)], (5, 6))
            fill(kernel, 1, [("file", 0, 0), (0, 2)], (7, 8))
            value, made = run(kernel.memory, 0, Getting(kernel, 0, []))
            self.assertEqual(value, 0)
            self.assertEqual(made, (
                writes(kernel, [(0, 1)], ("swap", 0)) + invalidation(kernel, 0, 1, [(0, 1)])
                + reads(kernel, 0) + [("write", kernel.sizes.swap_block(0), (5, 6))]
            ))
            self.assertEqual((kernel.frames.in_hands(), kernel.frames.free()), ([0], []))
            value, made = run(kernel.memory, 0, Getting(kernel, 0, []))
            self.assertEqual(value, 1)
            self.assertEqual(made, (
                writes(kernel, [(0, 2)], ("file", 0, 0)) + invalidation(kernel, 0, 2, [(0, 2)])
                + reads(kernel, 1) + [("write", kernel.sizes.file_block(0, 0), (7, 8))]
            ))
            self.assertEqual((kernel.frames.in_hands(), kernel.frames.free()), ([0, 1], []))

    def test_the_eviction_is_begun_when_it_is_made(self):
        kernel = new_kernel(2, 2, 2)
        fill(kernel, 0, [(0, 1)], (5, 6))
        fill(kernel, 1, [(0, 2)], (7, 8))
        before = state_of(kernel.memory)
        Getting(kernel, 0, [0])
        self.assertEqual((kernel.hand.points_to(), kernel.blocks.in_hands()), (0, [0]))
        self.assertEqual(kernel.frames.in_hands(), [])
        self.assertEqual(state_of(kernel.memory), before)

    def test_it_passes_over_the_frames_of_the_list(self):
        kernel = new_kernel(2, 3, 3)
        for frame in range(3):
            fill(kernel, frame, [(0, frame)], (5, 6))
        passed_over = [0, 1, 9]
        self.assertEqual(run(kernel.memory, 0, Getting(kernel, 0, passed_over))[0], 2)
        self.assertEqual(passed_over, [0, 1, 9])
        self.assertEqual(kernel.frames.in_hands(), [2])
        self.assertEqual(run(kernel.memory, 0, Getting(kernel, 0, [0]))[0], 1)

    def test_none(self):
        for blocks, owners, passed_over in ((0, (0, 1), []), (2, (0, 1), [0, 1]), (0, ("file", 0, 0), [0])):
            kernel = new_kernel(2, 2, blocks)
            fill(kernel, 0, [owners], (5, 6))
            kernel.frames.hold(1)
            before = (state_of(kernel.memory), kernel_state(kernel))
            stack = Stack(Getting(kernel, 0, passed_over))
            self.assertIs(stack.step(kernel.memory, 0), False)
            self.assertEqual((stack.ended(), stack.value()), (True, None))
            self.assertEqual((state_of(kernel.memory), kernel_state(kernel)), before)


if __name__ == "__main__":
    unittest.main()
