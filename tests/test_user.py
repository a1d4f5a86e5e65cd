"""Points 37 and 38: loads, stores and changes."""

import unittest

from frametally.kernel import Locking, Unlocking
from frametally.machines import Stack
from frametally.user import Using
from tests.interface import check_machine
from tests.play import (
    MANY, fill, fill_block, fillings, frame_values, invalidation, kernel_state, new_kernel, reads, requests_since, run,
    run_carefully, take_letters, word, words, writes,
)

RW = [(0, 8, "rw", None)]
R = [(0, 8, "r", None)]


def kernel_with(areas, processors=2, frames=3, blocks=2):
    """A kernel in which space 0 has these areas."""
    kernel = new_kernel(processors, frames, blocks)
    kernel.spaces = {0: list(areas)}
    return kernel


def taking(processor):
    return [("swap", 0, 0, processor + 1)]


GIVING = [("write", 0, 0)]


def tries(call):
    """The accesses by which a call finds that it needs the lock, when there is no entry."""
    return [call, ("walk", call[1], call[2])]


class UsingCase(unittest.TestCase):
    def check(self, kernel, call, processor, requests, answer, witness):
        """Makes a call, and compares its requests, its answer and its witness.

        `witness` is the place of the witness among the requests, or None.
        """
        memory = kernel.memory
        machine = Using(kernel, processor, call)
        stack = Stack(machine)
        made = []
        numbers = []
        for _ in range(MANY):
            if stack.ended():
                break
            reached = None if witness is None or len(made) <= witness else numbers[witness]
            self.assertEqual(machine.witness, reached)
            before = memory.count
            self.assertIs(stack.step(memory, processor), True)
            made.extend(request for _, request in requests_since(memory, before))
            numbers.append(memory.count)
            take_letters(memory)
        expected = None if witness is None else numbers[witness]
        self.assertEqual(made, requests)
        self.assertEqual(stack.value(), (answer, expected))
        self.assertEqual(machine.witness, expected)


class InterfaceTest(unittest.TestCase):
    def test_names_and_arguments(self):
        check_machine(self, Using, "frametally.user", ["kernel", "processor", "call"])

    def test_the_witness_of_a_new_machine(self):
        kernel = kernel_with(RW)
        before = kernel_state(kernel)
        for call in (("load", 0, 1, 0), ("store", 0, 1, 0, 5), ("change", 0, 1, 0, 5, 6)):
            self.assertIsNone(Using(kernel, 0, call).witness)
        self.assertEqual((kernel_state(kernel), kernel.memory.count), (before, 0))


class EntryTest(UsingCase):
    """Steps 1 and 2: through the buffer."""

    def kernel(self, writable, walked):
        kernel = kernel_with(RW)
        fill(kernel, 1, [(0, 3)], (5, 6), writable)
        if walked:
            kernel.memory.access(1, ("walk", 0, 3))
        return kernel

    def test_an_entry_is_there(self):
        for call, answer, values in (
            (("load", 0, 3, 1), ("ok", 6), (5, 6)),
            (("store", 0, 3, 1, 9), ("ok", None), (5, 9)),
            (("change", 0, 3, 0, 5, -7), ("ok", True), (-7, 6)),
            (("change", 0, 3, 0, 6, 7), ("ok", False), (5, 6)),
            (("change", 0, 3, 1, 6, 6), ("ok", True), (5, 6)),
        ):
            kernel = self.kernel(True, True)
            before = kernel_state(kernel)
            self.check(kernel, call, 1, [call], answer, 0)
            self.assertEqual((frame_values(kernel, 1), kernel_state(kernel)), (values, before))

    def test_a_load_through_an_entry_that_is_not_writable(self):
        self.check(self.kernel(False, True), ("load", 0, 3, 0), 1, [("load", 0, 3, 0)], ("ok", 5), 0)

    def test_cells_with_0(self):
        kernel = kernel_with(RW)
        fill(kernel, 1, [(0, 3)], (0, 0), True)
        kernel.memory.access(1, ("walk", 0, 3))
        for call, answer in (
            (("load", 0, 3, 0), ("ok", 0)), (("store", 0, 3, 0, 0), ("ok", None)),
            (("change", 0, 3, 0, 1, 2), ("ok", False)), (("change", 0, 3, 0, 0, 0), ("ok", True)),
        ):
            self.check(kernel, call, 1, [call], answer, 0)

    def test_behind_a_walk(self):
        for call, answer, values in (
            (("load", 0, 3, 1), ("ok", 6), (5, 6)),
            (("store", 0, 3, 1, 9), ("ok", None), (5, 9)),
            (("change", 0, 3, 0, 5, 7), ("ok", True), (7, 6)),
            (("change", 0, 3, 0, 6, 7), ("ok", False), (5, 6)),
        ):
            kernel = self.kernel(True, False)
            self.check(kernel, call, 1, [call, ("walk", 0, 3), call], answer, 2)
            self.assertEqual(frame_values(kernel, 1), values)

    def test_a_load_behind_a_walk_without_the_right_to_write(self):
        call = ("load", 0, 3, 1)
        self.check(self.kernel(False, False), call, 1, [call, ("walk", 0, 3), call], ("ok", 6), 2)

    def test_the_entry_of_another_processor_or_page_does_not_count(self):
        kernel = self.kernel(True, True)
        call = ("load", 0, 3, 1)
        self.check(kernel, call, 0, [call, ("walk", 0, 3), call], ("ok", 6), 2)

    def test_an_entry_that_is_not_writable_when_the_word_is(self):
        kernel = self.kernel(False, True)
        kernel.memory.access(0, ("write", kernel.word_cell((0, 3)), ("frame", 1, True)))
        call = ("store", 0, 3, 0, 9)
        self.check(kernel, call, 1, [call, ("walk", 0, 3), call], ("ok", None), 2)
        self.assertEqual(frame_values(kernel, 1), (9, 6))

    def test_the_table_is_not_looked_at_while_there_is_an_entry(self):
        # An old entry is used until the letter is taken, whatever the table and the areas say.
        kernel = self.kernel(True, True)
        kernel.memory.access(0, ("write", kernel.word_cell((0, 3)), None))
        kernel.spaces = {}
        self.check(kernel, ("load", 0, 3, 1), 1, [("load", 0, 3, 1)], ("ok", 6), 0)

    def test_an_entry_that_is_dropped_between_the_walk_and_the_access(self):
        kernel = self.kernel(True, False)
        memory = kernel.memory
        call = ("store", 0, 3, 1, 9)
        stack = Stack(Using(kernel, 1, call))
        for _ in range(3):
            before = memory.count
            stack.step(memory, 1)
            stack.step(memory, 1)
            self.assertEqual(requests_since(memory, before), [(1, call), (1, ("walk", 0, 3))])
            memory.access(0, ("send", 1, (1, ((0, 3),))))
            memory.access(1, ("take",))
        stack.step(memory, 1)
        stack.step(memory, 1)
        self.assertIs(stack.ended(), False)
        stack.step(memory, 1)
        self.assertEqual((stack.value(), frame_values(kernel, 1)), ((("ok", None), memory.count), (5, 9)))

    def test_a_word_that_changes_between_the_walk_and_the_access(self):
        kernel = self.kernel(True, False)
        memory = kernel.memory
        stack = Stack(Using(kernel, 1, ("load", 0, 3, 1)))
        stack.step(memory, 1)
        stack.step(memory, 1)
        memory.access(0, ("write", kernel.word_cell((0, 3)), None))
        memory.access(0, ("send", 1, (1, ((0, 3),))))
        memory.access(1, ("take",))
        before = memory.count
        for _ in range(3):
            stack.step(memory, 1)
        self.assertEqual(requests_since(memory, before), [
            (1, ("load", 0, 3, 1)), (1, ("walk", 0, 3)), (1, ("swap", 0, 0, 2)),
        ])


class LockTest(UsingCase):
    """Steps 3 to 6: with the lock."""

    def with_lock(self, kernel, call, processor, middle):
        """The accesses of a call that has no entry and no word for its use."""
        pair = (call[1], call[2])
        return tries(call) + taking(processor) + [("read", kernel.word_cell(pair))] + middle + GIVING

    def test_a_page_that_is_nowhere(self):
        for call, cell, answer, values in (
            (("load", 0, 3, 1), ("read", 1), ("ok", 0), (0, 0)),
            (("store", 0, 3, 1, 9), ("write", 1, 9), ("ok", None), (0, 9)),
            (("change", 0, 3, 0, 0, 7), ("swap", 0, 0, 7), ("ok", True), (7, 0)),
            (("change", 0, 3, 0, 1, 7), ("swap", 0, 1, 7), ("ok", False), (0, 0)),
        ):
            for processors in (1, 2, 3):
                kernel = kernel_with(RW, processors)
                name, index, *rest = cell
                middle = fillings(kernel, 0, (0, 0)) + writes(kernel, [(0, 3)], ("frame", 0, True))
                middle += [(name, kernel.sizes.frame_cell(0, index), *rest)]
                processor = processors - 1
                self.check(kernel, call, processor, self.with_lock(kernel, call, processor, middle), answer, 7)
                self.assertEqual((frame_values(kernel, 0), kernel.memory.peek(0)), (values, 0))
                self.assertEqual(words(kernel), {(0, 3): ("frame", 0, True)})

    def test_a_load_of_an_area_for_reading(self):
        kernel = kernel_with(R)
        call = ("load", 0, 3, 1)
        middle = fillings(kernel, 0, (0, 0)) + writes(kernel, [(0, 3)], ("frame", 0, False))
        middle += [("read", kernel.sizes.frame_cell(0, 1))]
        self.check(kernel, call, 0, self.with_lock(kernel, call, 0, middle), ("ok", 0), 7)

    def test_a_page_in_a_swap_block(self):
        for call, made, answer, values in (
            (("load", 0, 3, 0), ("read",), ("ok", 5), (5, 6)),
            (("store", 0, 3, 0, 9), ("write", 9), ("ok", None), (9, 6)),
            (("change", 0, 3, 0, 5, 7), ("swap", 5, 7), ("ok", True), (7, 6)),
            (("change", 0, 3, 0, 6, 7), ("swap", 6, 7), ("ok", False), (5, 6)),
        ):
            kernel = kernel_with(RW)
            fill_block(kernel, 1, [(0, 3)], (5, 6))
            middle = [("read", kernel.sizes.swap_block(1))] + writes(kernel, [(0, 3)], ("held",))
            middle += fillings(kernel, 0, (5, 6)) + writes(kernel, [(0, 3)], ("frame", 0, True))
            middle += [(made[0], kernel.sizes.frame_cell(0, 0), *made[1:])]
            self.check(kernel, call, 1, self.with_lock(kernel, call, 1, middle), answer, 9)
            self.assertEqual(frame_values(kernel, 0), values)

    def test_a_page_of_a_file(self):
        kernel = kernel_with([(2, 2, "rw", (1, 2))])
        kernel.memory.access(0, ("write", kernel.sizes.file_block(1, 3), (5, 6)))
        call = ("change", 0, 3, 1, 6, 8)
        middle = [("read", kernel.sizes.file_block(1, 3))] + fillings(kernel, 0, (5, 6))
        middle += writes(kernel, [(0, 3)], ("frame", 0, True)) + [("swap", kernel.sizes.frame_cell(0, 1), 6, 8)]
        self.check(kernel, call, 1, self.with_lock(kernel, call, 1, middle), ("ok", True), 8)
        self.assertEqual((frame_values(kernel, 0), kernel.cached(1, 3)), ((5, 8), 0))

    def test_a_word_without_the_right(self):
        for call, name, rest in ((("store", 0, 3, 0, 9), "write", (9,)), (("change", 0, 3, 0, 5, 9), "swap", (5, 9))):
            kernel = kernel_with(RW)
            fill(kernel, 1, [(0, 3)], (5, 6))
            middle = writes(kernel, [(0, 3)], ("frame", 1, True)) + [(name, kernel.sizes.frame_cell(1, 0), *rest)]
            answer = ("ok", None if name == "write" else True)
            self.check(kernel, call, 0, self.with_lock(kernel, call, 0, middle), answer, 5)
            self.assertEqual(frame_values(kernel, 1), (9, 6))

    def test_an_entry_without_the_right(self):
        kernel = kernel_with(RW)
        fill(kernel, 1, [(0, 3)], (5, 6))
        kernel.memory.access(0, ("walk", 0, 3))
        call = ("store", 0, 3, 0, 9)
        middle = writes(kernel, [(0, 3)], ("frame", 1, True)) + [("write", kernel.sizes.frame_cell(1, 0), 9)]
        self.check(kernel, call, 0, self.with_lock(kernel, call, 0, middle), ("ok", None), 5)

    def test_a_copy(self):
        for processors in (1, 2, 3):
            kernel = kernel_with(RW, processors)
            kernel.spaces = {0: RW, 1: RW}
            fill(kernel, 0, [(0, 3), (1, 3)], (5, 6))
            call = ("store", 1, 3, 1, 9)
            middle = reads(kernel, 0) + fillings(kernel, 1, (5, 6)) + writes(kernel, [(1, 3)], None)
            middle += invalidation(kernel, 0, 1, [(1, 3)]) + writes(kernel, [(1, 3)], ("frame", 1, True))
            middle += [("write", kernel.sizes.frame_cell(1, 1), 9)]
            requests = self.with_lock(kernel, call, 0, middle)
            self.check(kernel, call, 0, requests, ("ok", None), len(requests) - 2)
            self.assertEqual((frame_values(kernel, 0), frame_values(kernel, 1)), ((5, 6), (5, 9)))

    def test_the_word_may_be_ready_when_the_lock_is_taken(self):
        kernel = kernel_with(RW)
        memory = kernel.memory
        run(memory, 0, Locking(kernel, 0))
        stack = Stack(Using(kernel, 1, ("store", 0, 3, 1, 9)))
        for _ in range(5):
            stack.step(memory, 1)
        fill(kernel, 2, [(0, 3)], (5, 6), True)
        run(memory, 0, Unlocking(kernel))
        before = memory.count
        for _ in range(4):
            stack.step(memory, 1)
        self.assertEqual(requests_since(memory, before), [
            (1, ("swap", 0, 0, 2)), (1, ("read", kernel.word_cell((0, 3)))),
            (1, ("write", kernel.sizes.frame_cell(2, 1), 9)), (1, ("write", 0, 0)),
        ])
        self.assertEqual(stack.value(), (("ok", None), memory.count - 1))

    def check_refusal(self, kernel, call, word_of_it):
        before = (words(kernel), kernel_state(kernel))
        self.check(kernel, call, 1, self.with_lock(kernel, call, 1, []), (word_of_it, None), 3)
        self.assertEqual((words(kernel), kernel_state(kernel)), before)

    def test_no_such_space(self):
        for space in (1, 2, 3):
            for call in (("load", space, 3, 1), ("store", space, 3, 1, 9), ("change", space, 3, 0, 0, 7)):
                self.check_refusal(kernel_with(RW), call, "none")

    def test_a_page_without_an_area(self):
        for areas in ([], [(0, 3, "rw", None), (4, 4, "rw", None)]):
            for call in (("load", 0, 3, 1), ("store", 0, 3, 1, 9), ("change", 0, 3, 0, 0, 7)):
                self.check_refusal(kernel_with(areas), call, "fault")

    def test_writing_where_one_may_only_read(self):
        for areas in (R, [(3, 1, "r", (0, 0))]):
            for call in (("store", 0, 3, 1, 9), ("change", 0, 3, 0, 0, 7), ("change", 0, 3, 0, 1, 7)):
                self.check_refusal(kernel_with(areas), call, "fault")
                kernel = kernel_with(areas)
                owners = [(0, 3)] if areas == R else [("file", 0, 0), (0, 3)]
                fill(kernel, 0, owners, (5, 6))
                kernel.memory.access(1, ("walk", 0, 3))
                self.check_refusal(kernel, call, "fault")

    def test_no_frame(self):
        for call in (("load", 0, 3, 1), ("store", 0, 3, 1, 9), ("change", 0, 3, 0, 0, 7)):
            kernel = kernel_with(RW, 2, 2, 0)
            fill(kernel, 0, [(0, 1)], (5, 6))
            fill(kernel, 1, [(0, 2)], (7, 8))
            before = (words(kernel), kernel_state(kernel))
            self.check(kernel, call, 1, self.with_lock(kernel, call, 1, []), ("full", None), None)
            self.assertEqual((words(kernel), kernel_state(kernel)), before)
            self.assertEqual((frame_values(kernel, 0), frame_values(kernel, 1)), ((5, 6), (7, 8)))

    def test_no_frame_for_the_copy_of_what_came_from_a_block(self):
        kernel = kernel_with(RW, 2, 2, 1)
        kernel.spaces = {0: RW, 1: RW}
        kernel.frames.hold(0)
        fill_block(kernel, 0, [(0, 3), (1, 3)], (5, 6))
        call = ("store", 0, 3, 1, 9)
        middle = [("read", kernel.sizes.swap_block(0))] + writes(kernel, [(0, 3), (1, 3)], ("held",))
        middle += fillings(kernel, 1, (5, 6)) + writes(kernel, [(0, 3), (1, 3)], ("frame", 1, False))
        self.check(kernel, call, 0, self.with_lock(kernel, call, 0, middle), ("full", None), None)
        self.assertEqual(kernel.memory.peek(0), 0)
        # It can be read there.
        load = ("load", 0, 3, 1)
        self.check(kernel, load, 0, [load, ("walk", 0, 3), load], ("ok", 6), 2)

    def test_what_holds_is_what_holds_when_the_word_is_read(self):
        for spaces, answer in (({}, "none"), ({0: []}, "fault"), ({0: R}, "fault")):
            kernel = kernel_with(RW)
            memory = kernel.memory
            run(memory, 0, Locking(kernel, 0))
            stack = Stack(Using(kernel, 1, ("store", 0, 3, 1, 9)))
            for _ in range(4):
                stack.step(memory, 1)
            kernel.spaces = {space: list(areas) for space, areas in spaces.items()}
            run(memory, 0, Unlocking(kernel))
            for _ in range(3):
                stack.step(memory, 1)
            self.assertEqual(stack.value(), ((answer, None), memory.count - 1))

    def test_the_lock_is_tried_again_and_again(self):
        kernel = kernel_with(RW)
        memory = kernel.memory
        run(memory, 0, Locking(kernel, 0))
        machine = Using(kernel, 1, ("load", 0, 3, 1))
        stack = Stack(machine)
        for _ in range(8):
            self.assertIs(stack.step(memory, 1), True)
        self.assertEqual([request for _, request in requests_since(memory, 3)], taking(1) * 6)
        self.assertEqual((stack.ended(), machine.witness, memory.peek(0)), (False, None, 1))

    def test_the_walk_can_be_overtaken(self):
        # The word has come behind the walk; the entry of the walk is not there, so the cell is used with the lock.
        kernel = kernel_with(RW)
        memory = kernel.memory
        stack = Stack(Using(kernel, 1, ("load", 0, 3, 1)))
        stack.step(memory, 1)
        stack.step(memory, 1)
        fill(kernel, 2, [(0, 3)], (5, 6), True)
        before = memory.count
        while not stack.ended():
            stack.step(memory, 1)
        self.assertEqual([request for _, request in requests_since(memory, before)], [
            *taking(1), ("read", kernel.word_cell((0, 3))), ("read", kernel.sizes.frame_cell(2, 1)), *GIVING,
        ])
        self.assertEqual(stack.value(), (("ok", 6), memory.count - 1))


class QuickTest(unittest.TestCase):
    """Point 38."""

    def test_within_3_accesses(self):
        for call in (("load", 0, 3, 1), ("store", 0, 3, 1, 9), ("change", 0, 3, 1, 6, 7)):
            for entry in (None, ("frame", 1, False), ("frame", 1, True)):
                for held in (False, True):
                    kernel = kernel_with(RW)
                    memory = kernel.memory
                    fill(kernel, 1, [(0, 3)], (5, 6), True)
                    memory.buffers[1].put(0, 3, entry)
                    if held:
                        run(memory, 0, Locking(kernel, 0))
                    before = memory.count
                    stack = Stack(Using(kernel, 1, call))
                    while not stack.ended():
                        stack.step(memory, 1)
                        # What others do with the lock in between does not matter.
                        memory.access(0, ("read", 0))
                    made = [request for processor, request in requests_since(memory, before) if processor == 1]
                    usable = entry is not None and (entry[2] or call[0] == "load")
                    self.assertEqual(made, [call] if usable else [call, ("walk", 0, 3), call])
                    self.assertEqual(memory.peek(0), 1 if held else 0)

    def test_a_load_of_a_word_for_reading(self):
        kernel = kernel_with(R)
        fill(kernel, 1, [(0, 3)], (5, 6))
        run(kernel.memory, 0, Locking(kernel, 0))
        value, made = run(kernel.memory, 1, Using(kernel, 1, ("load", 0, 3, 0)))
        self.assertEqual((value[0], len(made)), (("ok", 5), 3))


class CarefulTest(unittest.TestCase):
    """Point 14."""

    def test_asking_changes_nothing(self):
        for call, answer in (
            (("load", 0, 3, 1), ("ok", 6)), (("store", 0, 3, 1, 9), ("ok", None)),
            (("change", 0, 3, 1, 6, 7), ("ok", True)), (("load", 0, 4, 0), ("ok", 0)),
            (("load", 2, 0, 0), ("none", None)),
        ):
            kernel = kernel_with(RW, 3)
            kernel.spaces = {0: RW, 1: RW}
            fill_block(kernel, 0, [(0, 3), (1, 3)], (5, 6))
            machine = Using(kernel, 2, call)
            self.assertEqual(run_carefully(self, kernel, 2, machine), (answer, machine.witness))
            self.assertIsNotNone(machine.witness)

    def test_the_call_stays_as_it_was(self):
        kernel = kernel_with(RW)
        call = ("change", 0, 3, 1, 0, 7)
        run(kernel.memory, 0, Using(kernel, 0, call))
        self.assertEqual((call, word(kernel, (0, 3))), (("change", 0, 3, 1, 0, 7), ("frame", 0, True)))


if __name__ == "__main__":
    unittest.main()
