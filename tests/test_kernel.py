"""Points 21 to 25: the kernel, and the machines for the lock, for letters and for lists of accesses."""

import unittest

from frametally.kernel import Doing, Invalidating, Kernel, Locking, Unlocking
from frametally.machines import Stack
from tests.interface import check_class, check_machine
from tests.play import cells_of, kernel_state, new_kernel, new_memory, requests_since, run, state_of

PAIRS = [(0, 1), (2, 3)]


def walked(kernel, *pages):
    """Lets every processor walk these pages of space 0, each of which leads to a frame."""
    for page in pages:
        kernel.memory.access(0, ("write", kernel.word_cell((0, page)), ("frame", page % 2, True)))
        for processor in range(kernel.sizes.processors):
            kernel.memory.access(processor, ("walk", 0, page))


class InterfaceTest(unittest.TestCase):
    def test_names_and_arguments(self):
        check_class(self, Kernel, "frametally.kernel", {
            "__init__": ["memory"],
            "cached": ["file", "page"],
            "new_space": [],
            "next_ticket": [],
            "is_private": ["frame"],
            "word_cell": ["pair"],
        })
        for cls, arguments in (
            (Locking, ["kernel", "processor"]),
            (Unlocking, ["kernel"]),
            (Invalidating, ["kernel", "processor", "pairs"]),
            (Doing, ["requests"]),
        ):
            check_machine(self, cls, "frametally.kernel", arguments)


class KernelTest(unittest.TestCase):
    def test_the_kernel_of_a_new_memory(self):
        for frames, blocks in ((2, 0), (3, 4), (12, 12)):
            memory = new_memory(2, frames, blocks)
            before = state_of(memory)
            kernel = Kernel(memory)
            self.assertIs(kernel.memory, memory)
            self.assertIs(kernel.sizes, memory.sizes)
            self.assertEqual(kernel.spaces, {0: []})
            self.assertEqual((kernel.frames.free(), kernel.frames.in_hands()), (list(range(frames)), []))
            self.assertEqual((kernel.blocks.free(), kernel.blocks.in_hands()), (list(range(blocks)), []))
            self.assertEqual((kernel.hand.points_to(), kernel.ticket), (0, 0))
            self.assertEqual(state_of(memory), before)

    def test_each_kernel_is_its_own(self):
        kernel, other = new_kernel(1, 2, 1), new_kernel(1, 2, 1)
        kernel.frames.take()
        kernel.blocks.take()
        kernel.next_ticket()
        kernel.spaces[0].append((0, 1, "r", None))
        kernel.spaces[1] = []
        self.assertEqual(kernel_state(other), kernel_state(new_kernel(1, 2, 1)))

    def test_new_space(self):
        kernel = new_kernel(1, 2, 0)
        for exist in range(16):
            spaces = [space for space in range(4) if exist >> space & 1]
            kernel.spaces = {space: [] for space in reversed(spaces)}
            others = [space for space in range(4) if space not in spaces]
            self.assertEqual(kernel.new_space(), others[0] if others else None)
            # It is told, and does not exist by that.
            self.assertEqual(sorted(kernel.spaces), spaces)

    def test_next_ticket(self):
        kernel = new_kernel(1, 2, 0)
        for ticket in range(1, 6):
            self.assertEqual(kernel.next_ticket(), ticket)
            self.assertEqual(kernel.ticket, ticket)

    def test_cached(self):
        kernel = new_kernel(1, 4, 0)
        kernel.frames.hold(3)
        kernel.frames.add(3, ("file", 1, 2))
        kernel.frames.add(3, (1, 2))
        kernel.frames.hold(0)
        kernel.frames.add(0, ("file", 0, 3))
        found = {(file, page): kernel.cached(file, page) for file in range(2) for page in range(4)}
        self.assertEqual({key: frame for key, frame in found.items() if frame is not None}, {(1, 2): 3, (0, 3): 0})
        kernel.frames.remove(3, ("file", 1, 2))
        self.assertIsNone(kernel.cached(1, 2))

    def test_is_private(self):
        kernel = new_kernel(1, 6, 0)
        for frame, owners in ((1, [("file", 0, 0)]), (2, [("file", 0, 1), (0, 1)]), (3, [(0, 2)]),
                              (4, [(1, 2), (2, 2)]), (5, [(0, 3), ("file", 0, 2)])):
            kernel.frames.hold(frame)
            for owner in owners:
                kernel.frames.add(frame, owner)
        self.assertEqual([kernel.is_private(frame) for frame in range(6)], [False, False, False, True, True, False])
        # In the hands it has no owners.
        kernel.frames.hold(0)
        self.assertIs(kernel.is_private(0), False)

    def test_word_cell(self):
        kernel = new_kernel(3, 2, 0)
        for space in range(4):
            for page in range(8):
                self.assertEqual(kernel.word_cell((space, page)), kernel.sizes.word(space, page))
        self.assertEqual(new_kernel(2, 3, 4).word_cell((1, 2)), 13)


class LockingTest(unittest.TestCase):
    def test_a_lock_that_is_free(self):
        for processor in range(3):
            kernel = new_kernel(3, 2, 0)
            kernel.memory.access(2, ("read", 5))
            value, made = run(kernel.memory, processor, Locking(kernel, processor))
            self.assertEqual((value, made), (2, [("swap", 0, 0, processor + 1)]))
            self.assertEqual(kernel.memory.peek(0), processor + 1)

    def test_a_lock_that_another_one_holds(self):
        for holder in (0, 2):
            kernel = new_kernel(3, 2, 0)
            memory = kernel.memory
            run(memory, holder, Locking(kernel, holder))
            stack = Stack(Locking(kernel, 1))
            for count in range(2, 7):
                self.assertIs(stack.step(memory, 1), True)
                self.assertEqual(requests_since(memory, count - 1), [(1, ("swap", 0, 0, 2))])
                self.assertEqual((stack.ended(), stack.value(), memory.peek(0)), (False, None, holder + 1))
            self.assertEqual(run(memory, holder, Unlocking(kernel)), (7, [("write", 0, 0)]))
            self.assertEqual((memory.peek(0), stack.ended()), (0, False))
            self.assertIs(stack.step(memory, 1), True)
            self.assertEqual((stack.ended(), stack.value(), memory.peek(0)), (True, 8, 2))

    def test_just_one_of_three_gets_it(self):
        kernel = new_kernel(3, 2, 0)
        stacks = [Stack(Locking(kernel, processor)) for processor in range(3)]
        for processor in (1, 0, 2, 0, 2):
            stacks[processor].step(kernel.memory, processor)
        self.assertEqual([stack.ended() for stack in stacks], [False, True, False])
        self.assertEqual([stack.value() for stack in stacks], [None, 1, None])

    def test_unlocking(self):
        kernel = new_kernel(2, 2, 0)
        run(kernel.memory, 1, Locking(kernel, 1))
        before = cells_of(kernel.memory)
        self.assertEqual(run(kernel.memory, 1, Unlocking(kernel)), (2, [("write", 0, 0)]))
        self.assertEqual(cells_of(kernel.memory), [0] + before[1:])

    def test_they_change_nothing_in_the_kernel(self):
        kernel = new_kernel(2, 2, 1)
        before = kernel_state(kernel)
        run(kernel.memory, 0, Locking(kernel, 0))
        run(kernel.memory, 0, Unlocking(kernel))
        self.assertEqual(kernel_state(kernel), before)

    def test_nothing_is_done_when_they_are_made(self):
        kernel = new_kernel(2, 2, 0)
        before = state_of(kernel.memory)
        Locking(kernel, 0)
        Unlocking(kernel)
        self.assertEqual(state_of(kernel.memory), before)


class InvalidatingCase(unittest.TestCase):
    def step(self, kernel, stack, expected):
        count = kernel.memory.count
        self.assertIs(stack.step(kernel.memory, 0), True)
        self.assertEqual(requests_since(kernel.memory, count), [(0, expected)])


class InvalidatingTest(InvalidatingCase):
    def test_no_pairs(self):
        for processors in (1, 2, 3):
            kernel = new_kernel(processors, 2, 0)
            walked(kernel, 1, 2)
            before = (state_of(kernel.memory), kernel_state(kernel))
            stack = Stack(Invalidating(kernel, 0, []))
            self.assertIs(stack.step(kernel.memory, 0), False)
            self.assertEqual((stack.ended(), stack.value()), (True, None))
            self.assertEqual((state_of(kernel.memory), kernel_state(kernel)), before)

    def test_one_processor(self):
        kernel = new_kernel(1, 2, 0)
        walked(kernel, 1, 2)
        before = state_of(kernel.memory)
        stack = Stack(Invalidating(kernel, 0, PAIRS))
        self.assertEqual(kernel.ticket, 1)
        self.assertEqual(kernel.memory.buffers[0].entries(), [(0, 2, 0, True)])
        self.assertIs(stack.step(kernel.memory, 0), False)
        self.assertEqual((stack.ended(), stack.value()), (True, None))
        after = state_of(kernel.memory)
        self.assertEqual((after[:2], after[3:]), (before[:2], before[3:]))

    def test_what_is_done_when_it_is_made(self):
        for processors in (1, 2, 3):
            for processor in range(processors):
                kernel = new_kernel(processors, 2, 0)
                walked(kernel, 1, 2)
                kernel.ticket = 4
                before = state_of(kernel.memory)
                Invalidating(kernel, processor, [(2, 3), (0, 1)])
                entries = [[(0, 1, 1, True), (0, 2, 0, True)] for _ in range(processors)]
                del entries[processor][0]
                self.assertEqual(kernel.ticket, 5)
                after = state_of(kernel.memory)
                self.assertEqual(after[2], entries)
                self.assertEqual((after[:2], after[3:]), (before[:2], before[3:]))

    def test_two_processors(self):
        for processor, other in ((0, 1), (1, 0)):
            kernel = new_kernel(2, 2, 0)
            walked(kernel, 1)
            count = kernel.memory.count
            value, made = run(kernel.memory, processor, Invalidating(kernel, processor, PAIRS))
            acknowledge = kernel.sizes.acknowledge(other)
            self.assertEqual(made, [("send", other, (1, tuple(PAIRS))), ("read", acknowledge)])
            # A letter was taken between the two.
            self.assertEqual(value, count + 3)
            self.assertEqual([buffer.entries() for buffer in kernel.memory.buffers], [[], []])

    def test_three_processors_that_take_their_letters_early(self):
        for processor in range(3):
            kernel = new_kernel(3, 2, 0)
            walked(kernel, 1)
            value, made = run(kernel.memory, processor, Invalidating(kernel, processor, PAIRS))
            low, high = [other for other in range(3) if other != processor]
            self.assertEqual(made, [
                ("send", low, (1, tuple(PAIRS))), ("send", high, (1, tuple(PAIRS))),
                ("read", kernel.sizes.acknowledge(low)), ("read", kernel.sizes.acknowledge(high)),
            ])
            self.assertEqual(value, kernel.memory.count)
            self.assertEqual([buffer.entries() for buffer in kernel.memory.buffers], [[], [], []])

    def test_two_processors_that_take_late(self):
        kernel = new_kernel(2, 2, 0)
        walked(kernel, 1)
        stack = Stack(Invalidating(kernel, 0, [(0, 1)]))
        self.step(kernel, stack, ("send", 1, (1, ((0, 1),))))
        for _ in range(5):
            self.step(kernel, stack, ("read", kernel.sizes.acknowledge(1)))
            self.assertEqual((stack.ended(), stack.value()), (False, None))
            self.assertEqual(kernel.memory.buffers[1].entries(), [(0, 1, 1, True)])
        kernel.memory.access(1, ("take",))
        self.step(kernel, stack, ("read", kernel.sizes.acknowledge(1)))
        self.assertEqual((stack.ended(), stack.value()), (True, kernel.memory.count))
        self.assertEqual(kernel.memory.buffers[1].entries(), [])

    def test_three_processors_that_take_at_any_time(self):
        for first in range(1, 7):
            for second in range(2, 7):
                kernel = new_kernel(3, 2, 0)
                walked(kernel, 1)
                stack = Stack(Invalidating(kernel, 0, [(0, 1)]))
                letter, words = (1, ((0, 1),)), [kernel.sizes.acknowledge(1), kernel.sizes.acknowledge(2)]
                # The letters are taken behind these steps, so the step behind finds the ticket.
                reads = [("read", words[0])] * max(1, first - 1)
                reads += [("read", words[1])] * max(1, second - 1 - len(reads))
                for number, expected in enumerate([("send", 1, letter), ("send", 2, letter)] + reads, start=1):
                    self.assertIs(stack.ended(), False)
                    self.step(kernel, stack, expected)
                    for processor, at in ((1, first), (2, second)):
                        if number == at:
                            self.assertIs(kernel.memory.access(processor, ("take",))[0], True)
                self.assertIs(stack.ended(), True)
                self.assertEqual([buffer.entries() for buffer in kernel.memory.buffers], [[], [], []])
                self.assertEqual([box.letters() for box in kernel.memory.boxes], [[], [], []])

    def test_an_older_ticket_is_not_the_ticket(self):
        kernel = new_kernel(2, 2, 0)
        run(kernel.memory, 0, Invalidating(kernel, 0, PAIRS))
        run(kernel.memory, 1, Invalidating(kernel, 1, PAIRS))
        stack = Stack(Invalidating(kernel, 0, PAIRS))
        self.step(kernel, stack, ("send", 1, (3, tuple(PAIRS))))
        for _ in range(3):
            self.step(kernel, stack, ("read", kernel.sizes.acknowledge(1)))
        self.assertIs(stack.ended(), False)
        kernel.memory.access(1, ("take",))
        self.step(kernel, stack, ("read", kernel.sizes.acknowledge(1)))
        self.assertIs(stack.ended(), True)

    def test_the_other_entries_stay(self):
        kernel = new_kernel(3, 2, 0)
        walked(kernel, 1, 2)
        run(kernel.memory, 1, Invalidating(kernel, 1, [(0, 2), (1, 1)]))
        self.assertEqual([buffer.entries() for buffer in kernel.memory.buffers], [[(0, 1, 1, True)]] * 3)

    def test_who_walks_behind_the_change_has_read_the_new_word(self):
        kernel = new_kernel(2, 2, 0)
        walked(kernel, 1)
        kernel.memory.access(0, ("write", kernel.word_cell((0, 1)), ("frame", 0, False)))
        stack = Stack(Invalidating(kernel, 0, [(0, 1)]))
        stack.step(kernel.memory, 0)
        kernel.memory.access(1, ("take",))
        kernel.memory.access(1, ("walk", 0, 1))
        stack.step(kernel.memory, 0)
        self.assertIs(stack.ended(), True)
        self.assertEqual(kernel.memory.buffers[1].entries(), [(0, 1, 0, False)])

    def test_the_list_is_not_changed_and_not_kept(self):
        kernel = new_kernel(2, 2, 0)
        pairs = [(0, 1), (2, 3)]
        machine = Invalidating(kernel, 0, pairs)
        self.assertEqual(pairs, PAIRS)
        pairs.append((3, 3))
        self.assertEqual(run(kernel.memory, 0, machine)[1][0], ("send", 1, (1, tuple(PAIRS))))


class BoxTest(InvalidatingCase):
    """Point 25."""

    def test_a_processor_that_waits_for_the_lock_takes_its_letter(self):
        kernel = new_kernel(2, 2, 0)
        memory = kernel.memory
        run(memory, 0, Locking(kernel, 0))
        waiting = Stack(Locking(kernel, 1))
        for ticket in (1, 2, 3):
            waiting.step(memory, 1)
            stack = Stack(Invalidating(kernel, 0, [(0, ticket)]))
            self.step(kernel, stack, ("send", 1, (ticket, ((0, ticket),))))
            waiting.step(memory, 1)
            self.step(kernel, stack, ("read", kernel.sizes.acknowledge(1)))
            self.assertEqual(len(memory.boxes[1].letters()), 1)
            self.assertIs(memory.access(1, ("take",))[0], True)
            self.assertIs(waiting.ended(), False)
            self.step(kernel, stack, ("read", kernel.sizes.acknowledge(1)))
            self.assertIs(stack.ended(), True)
        run(memory, 0, Unlocking(kernel))
        waiting.step(memory, 1)
        self.assertEqual((waiting.ended(), waiting.value()), (True, memory.count))

    def test_a_processor_that_waits_for_acknowledgements_takes_its_letter(self):
        kernel = new_kernel(3, 2, 0)
        stack = Stack(Invalidating(kernel, 0, [(0, 1)]))
        stack.step(kernel.memory, 0)
        stack.step(kernel.memory, 0)
        self.step(kernel, stack, ("read", kernel.sizes.acknowledge(1)))
        kernel.memory.access(1, ("send", 0, (7, ((0, 2),))))
        self.assertIs(kernel.memory.access(0, ("take",))[0], True)
        self.step(kernel, stack, ("read", kernel.sizes.acknowledge(1)))
        for processor in (2, 1):
            kernel.memory.access(processor, ("take",))
        self.step(kernel, stack, ("read", kernel.sizes.acknowledge(1)))
        self.step(kernel, stack, ("read", kernel.sizes.acknowledge(2)))
        self.assertIs(stack.ended(), True)


class DoingTest(unittest.TestCase):
    def test_no_requests(self):
        memory = new_memory(2, 2, 0)
        before = state_of(memory)
        stack = Stack(Doing([]))
        self.assertIs(stack.step(memory, 0), False)
        self.assertEqual((stack.ended(), stack.value()), (True, []))
        self.assertEqual(state_of(memory), before)

    def test_one(self):
        memory = new_memory(2, 2, 0)
        memory.access(1, ("write", 4, 9))
        self.assertEqual(run(memory, 0, Doing([("read", 4)])), ([(9, 2)], [("read", 4)]))

    def test_several(self):
        memory = new_memory(2, 2, 0)
        requests = [("write", 4, 9), ("read", 4), ("swap", 4, 8, 7), ("swap", 4, 9, 7), ("take",), ("read", 4)]
        value, made = run(memory, 1, Doing(requests))
        self.assertEqual(made, requests)
        self.assertEqual(value, [(None, 1), (9, 2), (False, 3), (True, 4), (False, 5), (7, 6)])
        self.assertEqual([processor for _, processor, _ in memory.log()], [1] * 6)

    def test_another_processor_between_them(self):
        memory = new_memory(2, 2, 0)
        stack = Stack(Doing([("read", 4), ("read", 4)]))
        stack.step(memory, 0)
        self.assertEqual((stack.ended(), stack.value()), (False, None))
        memory.access(1, ("write", 4, 5))
        stack.step(memory, 0)
        self.assertEqual((stack.ended(), stack.value()), (True, [(None, 1), (5, 3)]))

    def test_the_list_is_not_changed_and_not_kept(self):
        memory = new_memory(2, 2, 0)
        requests = [("read", 4), ("read", 5)]
        machine = Doing(requests)
        stack = Stack(machine)
        stack.step(memory, 0)
        self.assertEqual(requests, [("read", 4), ("read", 5)])
        requests.append(("read", 6))
        requests[1] = ("read", 7)
        stack.step(memory, 0)
        self.assertEqual(stack.value(), [(None, 1), (None, 2)])
        self.assertEqual(memory.log()[1], (2, 0, ("read", 5)))


if __name__ == "__main__":
    unittest.main()
