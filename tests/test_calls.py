"""Points 39 to 41: the calls."""

import unittest

from frametally.calls import Calling, is_call, machine_of
from frametally.kernel import Locking, Unlocking
from frametally.machines import Stack
from frametally.user import Using
from tests.interface import check_function, check_machine
from tests.play import (
    MANY, cells_of, file_value, fill, fill_block, frame_values, invalidation, kernel_state, new_kernel, reads,
    requests_since, run, run_carefully, swap_value, take_letters, word, words, writes,
)

RW = [(0, 8, "rw", None)]
R = [(0, 8, "r", None)]
GIVING = [("write", 0, 0)]


def taking(processor):
    return [("swap", 0, 0, processor + 1)]


def kernel_with(spaces, processors=2, frames=4, blocks=3):
    """A kernel with these spaces and areas."""
    kernel = new_kernel(processors, frames, blocks)
    kernel.spaces = {space: list(areas) for space, areas in spaces.items()}
    return kernel


def owners(kernel):
    """The owners of all frames, and those of all blocks."""
    return (
        [kernel.frames.owners(frame) for frame in range(kernel.sizes.frames)],
        [kernel.blocks.owners(block) for block in range(kernel.sizes.blocks)],
    )


class CallCase(unittest.TestCase):
    def check(self, kernel, call, middle, answer, processor=0, witness=-1):
        """Makes a call, and compares the accesses between taking and giving back the lock, and the answer.

        `witness` is the place of the witness among all accesses of the call.
        """
        memory = kernel.memory
        machine = Calling(kernel, processor, call)
        stack = Stack(machine)
        made = []
        numbers = []
        for _ in range(MANY):
            if stack.ended():
                break
            known = None if witness < 0 or len(made) <= witness else numbers[witness]
            self.assertEqual(machine.witness, known)
            before = memory.count
            self.assertIs(stack.step(memory, processor), True)
            made.extend(request for _, request in requests_since(memory, before))
            numbers.append(memory.count)
            take_letters(memory)
        self.assertEqual(made, taking(processor) + middle + GIVING)
        self.assertEqual(stack.value(), (answer, numbers[witness]))
        self.assertEqual(machine.witness, numbers[witness])
        self.assertEqual(memory.peek(0), 0)

    def check_kernel_alone(self, kernel, call, answer, spaces):
        """A call that makes the two accesses of the lock and changes nothing but the spaces."""
        before = (cells_of(kernel.memory), kernel_state(kernel)[1:])
        for processor in range(kernel.sizes.processors - 1):
            run(kernel.memory, processor, Locking(kernel, processor))
            run(kernel.memory, processor, Unlocking(kernel))
        self.check(kernel, call, [], answer, kernel.sizes.processors - 1)
        self.assertEqual((cells_of(kernel.memory), kernel_state(kernel)[1:]), before)
        self.assertEqual(kernel_state(kernel)[0], spaces)

    def check_refusal(self, kernel, call, word_of_it):
        self.check_kernel_alone(kernel, call, (word_of_it, None), kernel_state(kernel)[0])


class InterfaceTest(unittest.TestCase):
    def test_names_and_arguments(self):
        check_function(self, is_call, "frametally.calls", ["value"])
        check_function(self, machine_of, "frametally.calls", ["kernel", "processor", "call"])
        check_machine(self, Calling, "frametally.calls", ["kernel", "processor", "call"])

    def test_machine_of(self):
        kernel = kernel_with({0: RW})
        for call in (("load", 0, 1, 0), ("store", 0, 1, 0, 5), ("change", 0, 1, 0, 5, 6)):
            self.assertIsInstance(machine_of(kernel, 1, call), Using)
        for call in (
            ("map", 0, 1, 1, "r", None), ("unmap", 0, 1, 1), ("protect", 0, 1, 1, "r"), ("begin",), ("fork", 0),
            ("end", 0), ("evict",), ("sync", 1),
        ):
            machine = machine_of(kernel, 1, call)
            self.assertIsInstance(machine, Calling)
            self.assertIsNone(machine.witness)
            self.assertEqual(machine.request()[0], "call")
        # The processor and the call are those of the machine.
        (answer, witness), made = run(kernel.memory, 1, machine_of(kernel, 1, ("store", 0, 2, 1, 7)))
        self.assertEqual((answer, made[0], made[2]), (("ok", None), ("store", 0, 2, 1, 7), ("swap", 0, 0, 2)))
        (answer, witness), made = run(kernel.memory, 1, machine_of(kernel, 1, ("end", 3)))
        self.assertEqual((answer, witness, made), (("none", None), kernel.memory.count, taking(1) + GIVING))


class IsCallTest(unittest.TestCase):
    GOOD = (
        ("load", 0, 0, 0), ("load", 3, 7, 1),
        ("store", 0, 0, 0, 0), ("store", 3, 7, 1, -9), ("store", 1, 2, 0, 10 ** 30),
        ("change", 0, 0, 0, 0, 0), ("change", 3, 7, 1, -1, 2 ** 70),
        ("map", 0, 0, 1, "r", None), ("map", 3, 0, 8, "rw", None), ("map", 1, 7, 1, "rw", None),
        ("map", 1, 3, 5, "r", None),
        ("map", 0, 0, 4, "r", (0, 0)), ("map", 2, 4, 4, "rw", (1, 0)), ("map", 2, 7, 1, "rw", (1, 3)),
        ("map", 2, 1, 2, "rw", (0, 2)),
        ("unmap", 0, 0, 8), ("unmap", 3, 7, 1), ("unmap", 1, 2, 3),
        ("protect", 0, 0, 8, "r"), ("protect", 3, 7, 1, "rw"),
        ("begin",), ("fork", 0), ("fork", 3), ("end", 0), ("end", 3), ("evict",), ("sync", 0), ("sync", 1),
    )

    def test_calls(self):
        for call in self.GOOD:
            self.assertIs(is_call(call), True, call)

    def test_numbers_beyond_their_bounds(self):
        for call in (
            ("load", -1, 0, 0), ("load", 4, 0, 0), ("load", 0, -1, 0), ("load", 0, 8, 0), ("load", 0, 0, -1),
            ("load", 0, 0, 2),
            ("store", 4, 0, 0, 1), ("store", -1, 0, 0, 1), ("store", 0, 8, 0, 1), ("store", 0, -1, 0, 1),
            ("store", 0, 0, 2, 1),
            ("change", 4, 0, 0, 1, 1), ("change", 0, 8, 0, 1, 1), ("change", 0, 0, 2, 1, 1), ("change", 0, 0, -1, 1, 1),
            ("map", 4, 0, 1, "r", None), ("map", -1, 0, 1, "r", None), ("map", 0, 8, 1, "r", None),
            ("map", 0, -1, 1, "r", None), ("map", 0, 0, 0, "r", None), ("map", 0, 0, 9, "r", None),
            ("map", 0, 7, 2, "r", None), ("map", 0, 0, -1, "r", None),
            ("map", 0, 4, 5, "r", None), ("map", 0, 0, 1, "r", (2, 0)), ("map", 0, 0, 1, "r", (-1, 0)),
            ("map", 0, 0, 1, "r", (0, 4)), ("map", 0, 0, 1, "r", (0, -1)), ("map", 0, 0, 2, "r", (0, 3)),
            ("map", 0, 0, 5, "r", (0, 0)), ("map", 0, 0, 8, "r", (0, 0)),
            ("unmap", 4, 0, 1), ("unmap", -1, 0, 1), ("unmap", 0, 8, 1), ("unmap", 0, -1, 2), ("unmap", 0, 0, 0),
            ("unmap", 0, 0, 9), ("unmap", 0, 7, 2), ("unmap", 0, 3, -1),
            ("protect", 4, 0, 1, "r"), ("protect", -1, 0, 1, "r"), ("protect", 0, 8, 1, "r"),
            ("protect", 0, -1, 1, "r"), ("protect", 0, 0, 0, "r"), ("protect", 0, 0, 9, "r"),
            ("protect", 0, 1, 8, "rw"),
            ("fork", 4), ("fork", -1), ("end", 4), ("end", -1), ("sync", 2), ("sync", -1),
        ):
            self.assertIs(is_call(call), False, call)

    def test_rights(self):
        for rights in ("w", "", "wr", "R", "RW", "r ", "rwr", None, True, 0, ("r",), ["r"], ("r", "w"), b"r"):
            self.assertIs(is_call(("map", 0, 0, 1, rights, None)), False, rights)
            self.assertIs(is_call(("protect", 0, 0, 1, rights)), False, rights)

    def test_sources(self):
        for source in (
            (), (0,), (0, 0, 0), [0, 0], "00", 0, True, False, (True, 0), (0, True), (False, 0), (0, False), ("0", 0),
            (0, None), (None, None), ((0, 0), 0), {}, {0, 1}, {0: 0}, 1.0, (0.0, 0), (0, 1.0),
        ):
            self.assertIs(is_call(("map", 0, 0, 1, "r", source)), False, source)

    def test_a_part_too_many_or_too_few(self):
        for call in self.GOOD:
            self.assertIs(is_call(call + (0,)), False, call)
            self.assertIs(is_call(call + (None,)), False, call)
            self.assertIs(is_call(call[:-1]), False, call)
            self.assertIs(is_call(call[1:]), False, call)
            self.assertIs(is_call(list(call)), False, call)
            self.assertIs(is_call((call,)), False, call)

    def test_other_values_in_the_place_of_a_number(self):
        others = (True, False, None, "0", "", (), (0,), [], [0], 0.0, 1.5, b"0", {}, {0}, object())
        for call in self.GOOD:
            for at, part in enumerate(call):
                if isinstance(part, int):
                    for other in others:
                        bent = call[:at] + (other,) + call[at + 1:]
                        self.assertIs(is_call(bent), False, bent)

    def test_names(self):
        for name in ("Load", "loads", "", "take", "walk", "read", None, 0, True, (), ["load"], b"load", {}):
            for call in self.GOOD:
                self.assertIs(is_call((name,) + call[1:]), False, (name, call))

    def test_values_of_any_other_kind(self):
        for value in (
            None, True, False, 0, 1, -1, "", "load", "begin", "evict", b"begin", 1.5, (), ((),), [], ["begin"], {},
            {"begin"}, {"begin": 1}, object(), is_call, int, ("begin",).__class__, range(3),
        ):
            self.assertIs(is_call(value), False, value)


class MapTest(CallCase):
    def test_one_more_area(self):
        for processors in (1, 2, 3):
            kernel = kernel_with({0: [(2, 2, "r", None)], 2: []}, processors)
            self.check_kernel_alone(kernel, ("map", 0, 5, 3, "rw", (1, 1)), ("ok", None), {
                0: [(2, 2, "r", None), (5, 3, "rw", (1, 1))], 2: [],
            })
            self.check_kernel_alone(kernel, ("map", 0, 0, 2, "r", None), ("ok", None), {
                0: [(0, 2, "r", None), (2, 2, "r", None), (5, 3, "rw", (1, 1))], 2: [],
            })
            self.check_kernel_alone(kernel, ("map", 2, 0, 8, "rw", None), ("ok", None), {
                0: [(0, 2, "r", None), (2, 2, "r", None), (5, 3, "rw", (1, 1))], 2: RW,
            })

    def test_refusals(self):
        kernel = kernel_with({0: [(2, 2, "r", None)], 2: RW})
        for space in (1, 3):
            self.check_refusal(kernel, ("map", space, 2, 1, "r", None), "none")
        for first, pages in ((2, 1), (3, 1), (0, 3), (0, 8), (3, 5), (1, 2)):
            self.check_refusal(kernel, ("map", 0, first, pages, "rw", None), "taken")
        self.check_refusal(kernel, ("map", 2, 7, 1, "r", (0, 0)), "taken")

    def test_the_list_of_before_stays_as_it_was(self):
        kernel = kernel_with({0: [(2, 2, "r", None)]})
        areas = kernel.spaces[0]
        run(kernel.memory, 0, Calling(kernel, 0, ("map", 0, 5, 1, "r", None)))
        self.assertEqual(areas, [(2, 2, "r", None)])


class BeginTest(CallCase):
    def test_the_least_free_number(self):
        for processors in (1, 3):
            kernel = kernel_with({0: RW}, processors)
            fill(kernel, 0, [(0, 1)], (5, 6))
            for space in (1, 2, 3):
                spaces = {0: RW, **{other: [] for other in range(1, space + 1)}}
                self.check_kernel_alone(kernel, ("begin",), ("ok", space), spaces)
            self.check_refusal(kernel, ("begin",), "full")

    def test_a_number_that_is_free_again(self):
        self.check_kernel_alone(kernel_with({0: RW, 1: R, 3: []}), ("begin",), ("ok", 2), {0: RW, 1: R, 2: [], 3: []})
        self.check_kernel_alone(kernel_with({3: R}), ("begin",), ("ok", 0), {0: [], 3: R})
        self.check_kernel_alone(kernel_with({}), ("begin",), ("ok", 0), {0: []})
        self.check_refusal(kernel_with({3: R, 1: [], 0: [], 2: []}), ("begin",), "full")


class UnmapTest(CallCase):
    def kernel(self, processors=2):
        """Pages 1 to 6 of space 0, of which 5 and 6 show pages of file 1; nothing of page 3 is anywhere."""
        areas = [(1, 4, "rw", None), (5, 2, "rw", (1, 0))]
        kernel = kernel_with({0: areas, 1: areas, 2: areas}, processors)
        fill(kernel, 0, [(0, 1)], (1, 2), True)
        fill(kernel, 1, [(1, 2), (0, 2)], (3, 4))
        fill(kernel, 2, [("file", 1, 0), (0, 5), (1, 5)], (5, 6), True)
        fill_block(kernel, 0, [(0, 4), (2, 4)], (7, 8))
        kernel.memory.access(0, ("write", kernel.word_cell((0, 6)), ("file", 1, 1)))
        return kernel

    def check_cut(self, call, pages, areas, processors):
        kernel = self.kernel(processors)
        before = words(kernel)
        found = owners(kernel)
        pairs = [(0, page) for page in pages]
        middle = writes(kernel, pairs, None)
        if pairs:
            middle += invalidation(kernel, processors - 1, 1, pairs)
        self.check(kernel, call, middle, ("ok", None), processors - 1)
        self.assertEqual(words(kernel), {pair: value for pair, value in before.items() if pair not in pairs})
        self.assertEqual(owners(kernel), tuple(
            [[owner for owner in row if owner not in pairs] for row in rows] for rows in found
        ))
        self.assertEqual((kernel.frames.in_hands(), kernel.blocks.in_hands()), ([], []))
        self.assertEqual(kernel.ticket, 1 if pairs else 0)
        self.assertEqual(kernel.spaces.get(0), areas)
        self.assertEqual([kernel.spaces[space] for space in (1, 2)], [[(1, 4, "rw", None), (5, 2, "rw", (1, 0))]] * 2)

    def test_unmap(self):
        for processors in (1, 2, 3):
            for first, many, pages, areas in (
                (1, 1, [1], [(2, 3, "rw", None), (5, 2, "rw", (1, 0))]),
                (2, 1, [2], [(1, 1, "rw", None), (3, 2, "rw", None), (5, 2, "rw", (1, 0))]),
                (3, 1, [3], [(1, 2, "rw", None), (4, 1, "rw", None), (5, 2, "rw", (1, 0))]),
                (4, 2, [4, 5], [(1, 3, "rw", None), (6, 1, "rw", (1, 1))]),
                (6, 2, [6], [(1, 4, "rw", None), (5, 1, "rw", (1, 0))]),
                (0, 8, [1, 2, 3, 4, 5, 6], []),
                (0, 1, [], [(1, 4, "rw", None), (5, 2, "rw", (1, 0))]),
                (7, 1, [], [(1, 4, "rw", None), (5, 2, "rw", (1, 0))]),
            ):
                self.check_cut(("unmap", 0, first, many), pages, areas, processors)

    def test_end(self):
        for processors in (1, 2, 3):
            self.check_cut(("end", 0), [1, 2, 3, 4, 5, 6], None, processors)

    def test_end_of_a_space_without_areas(self):
        kernel = kernel_with({0: [], 2: RW}, 3)
        self.check_kernel_alone(kernel, ("end", 0), ("ok", None), {2: RW})
        self.check_kernel_alone(kernel_with({0: []}), ("end", 0), ("ok", None), {})

    def test_refusals(self):
        kernel = self.kernel()
        kernel.spaces = {0: kernel.spaces[0]}
        for space in (1, 2, 3):
            self.check_refusal(kernel, ("unmap", space, 0, 8), "none")
            self.check_refusal(kernel, ("end", space), "none")

    def test_a_frame_is_free_when_its_last_owner_goes(self):
        kernel = self.kernel()
        run(kernel.memory, 0, Calling(kernel, 0, ("unmap", 0, 1, 2)))
        self.assertEqual((kernel.frames.free(), kernel.blocks.free()), ([0, 3], [1, 2]))
        run(kernel.memory, 0, Calling(kernel, 0, ("end", 1)))
        self.assertEqual((kernel.frames.free(), kernel.frames.owners(2)), ([0, 1, 3], [("file", 1, 0), (0, 5)]))
        # What caches a page of a file keeps it when no page leads to it.
        run(kernel.memory, 0, Calling(kernel, 0, ("end", 0)))
        self.assertEqual((kernel.frames.free(), kernel.cached(1, 0), frame_values(kernel, 2)), ([0, 1, 3], 2, (5, 6)))
        self.assertEqual(kernel.blocks.owners(0), [(2, 4)])
        run(kernel.memory, 0, Calling(kernel, 0, ("end", 2)))
        self.assertEqual((kernel.blocks.free(), words(kernel), kernel.spaces), ([0, 1, 2], {}, {}))

    def test_the_frames_are_no_sooner_free_than_the_letters_are_taken(self):
        kernel = self.kernel()
        memory = kernel.memory
        memory.access(1, ("walk", 0, 1))
        stack = Stack(Calling(kernel, 0, ("unmap", 0, 1, 1)))
        for _ in range(6):
            stack.step(memory, 0)
            self.assertEqual((kernel.frames.free(), kernel.frames.owners(0)), ([3], [(0, 1)]))
        self.assertEqual(memory.access(1, ("load", 0, 1, 0))[0], (1,))
        memory.access(1, ("take",))
        self.assertIsNone(memory.access(1, ("load", 0, 1, 0))[0])
        stack.step(memory, 0)
        self.assertEqual(kernel.frames.free(), [0, 3])
        self.assertEqual(memory.peek(0), 1)
        stack.step(memory, 0)
        self.assertEqual((stack.ended(), memory.peek(0)), (True, 0))


class ProtectTest(CallCase):
    def kernel(self, processors=2, rights="rw"):
        """Pages 1 to 6 of space 0, of which 5 and 6 show pages of file 1; nothing of page 3 is anywhere."""
        areas = [(1, 4, rights, None), (5, 2, rights, (1, 0))]
        kernel = kernel_with({0: areas, 1: areas}, processors)
        fill(kernel, 0, [(0, 1)], (1, 2), True)
        fill(kernel, 1, [(1, 2), (0, 2)], (3, 4))
        fill(kernel, 2, [("file", 1, 0), (0, 5), (1, 5)], (5, 6), True)
        fill_block(kernel, 0, [(0, 4), (1, 4)], (7, 8))
        kernel.memory.access(0, ("write", kernel.word_cell((0, 6)), ("file", 1, 1)))
        return kernel

    def check_reading(self, first, many, changed, areas, processors):
        kernel = self.kernel(processors)
        before = words(kernel)
        found = owners(kernel)
        pairs = [(0, page) for page in changed]
        new = {pair: ("frame", before[pair][1], False) for pair in pairs}
        middle = [("write", kernel.word_cell(pair), value) for pair, value in new.items()]
        if pairs:
            middle += invalidation(kernel, processors - 1, 1, pairs)
        self.check(kernel, ("protect", 0, first, many, "r"), middle, ("ok", None), processors - 1)
        self.assertEqual(words(kernel), {**before, **new})
        self.assertEqual((owners(kernel), kernel.ticket), (found, 1 if pairs else 0))
        self.assertEqual(kernel.spaces, {0: areas, 1: [(1, 4, "rw", None), (5, 2, "rw", (1, 0))]})

    def test_for_reading(self):
        for processors in (1, 2, 3):
            self.check_reading(0, 8, [1, 2, 5], [(1, 4, "r", None), (5, 2, "r", (1, 0))], processors)
            self.check_reading(1, 1, [1], [(1, 1, "r", None), (2, 3, "rw", None), (5, 2, "rw", (1, 0))], processors)
            areas = [(1, 1, "rw", None), (2, 2, "r", None), (4, 1, "rw", None), (5, 2, "rw", (1, 0))]
            self.check_reading(2, 2, [2], areas, processors)
            self.check_reading(3, 2, [], [(1, 2, "rw", None), (3, 2, "r", None), (5, 2, "rw", (1, 0))], processors)
            areas = [(1, 4, "rw", None), (5, 1, "r", (1, 0)), (6, 1, "rw", (1, 1))]
            self.check_reading(5, 1, [5], areas, processors)
            areas = [(1, 4, "rw", None), (5, 1, "rw", (1, 0)), (6, 1, "r", (1, 1))]
            self.check_reading(6, 2, [], areas, processors)
            self.check_reading(0, 1, [], [(1, 4, "rw", None), (5, 2, "rw", (1, 0))], processors)

    def test_for_writing(self):
        for rights in ("r", "rw"):
            for processors in (1, 3):
                kernel = self.kernel(processors, rights)
                self.check_kernel_alone(kernel, ("protect", 0, 0, 8, "rw"), ("ok", None), {
                    0: [(1, 4, "rw", None), (5, 2, "rw", (1, 0))], 1: [(1, 4, rights, None), (5, 2, rights, (1, 0))],
                })
        kernel = self.kernel(2, "r")
        self.check_kernel_alone(kernel, ("protect", 0, 2, 4, "rw"), ("ok", None), {
            0: [(1, 1, "r", None), (2, 3, "rw", None), (5, 1, "rw", (1, 0)), (6, 1, "r", (1, 1))],
            1: [(1, 4, "r", None), (5, 2, "r", (1, 0))],
        })

    def test_refusals(self):
        for rights in ("r", "rw"):
            for space in (2, 3):
                self.check_refusal(self.kernel(), ("protect", space, 0, 8, rights), "none")

    def test_no_store_gets_through_behind_it(self):
        kernel = self.kernel()
        memory = kernel.memory
        for processor in (0, 1):
            memory.access(processor, ("walk", 0, 1))
        stack = Stack(Calling(kernel, 0, ("protect", 0, 1, 1, "r")))
        for _ in range(4):
            stack.step(memory, 0)
        self.assertIs(memory.access(0, ("store", 0, 1, 0, 8))[0], False)
        self.assertIs(memory.access(1, ("store", 0, 1, 0, 9))[0], True)
        memory.access(1, ("take",))
        self.assertIs(memory.access(1, ("store", 0, 1, 0, 10))[0], False)
        while not stack.ended():
            stack.step(memory, 0)
        memory.access(1, ("walk", 0, 1))
        self.assertIs(memory.access(1, ("store", 0, 1, 0, 10))[0], False)
        self.assertEqual(memory.access(1, ("load", 0, 1, 0))[0], (9,))


class ForkTest(CallCase):
    """Points 40 and 41."""

    AREAS = [(1, 4, "rw", None), (5, 2, "rw", (1, 0)), (7, 1, "r", None)]

    def kernel(self, processors=2, spaces=(0,)):
        """Pages 1, 2 and 7 of space 0 are private ones in frames, 4 in a block, 3 nowhere; 5 shows a page of a file."""
        kernel = kernel_with({space: self.AREAS for space in spaces}, processors, 5)
        fill(kernel, 0, [(0, 7)], (1, 2))
        fill(kernel, 1, [("file", 1, 0), (0, 5)], (5, 6), True)
        fill(kernel, 2, [(0, 1)], (3, 4), True)
        fill(kernel, 4, [(0, 2)], (9, 10), True)
        fill_block(kernel, 1, [(0, 4)], (7, 8))
        kernel.memory.access(0, ("write", kernel.word_cell((0, 6)), ("file", 1, 1)))
        return kernel

    def own_writes(self, kernel, space):
        rows = ((1, 2), (2, 4), (7, 0))
        return [("write", kernel.word_cell((space, page)), ("frame", frame, False)) for page, frame in rows]

    def child_writes(self, kernel, child):
        return [("write", kernel.word_cell((child, page)), value) for page, value in (
            (1, ("frame", 2, False)), (2, ("frame", 4, False)), (4, ("swap", 1)), (7, ("frame", 0, False)),
        )]

    def test_a_fork(self):
        for processors in (1, 2, 3):
            for processor in range(processors):
                for spaces, child in (((0,), 1), ((0, 1), 2), ((0, 1, 3), 2), ((0, 1, 2), 3)):
                    kernel = self.kernel(processors, spaces)
                    own = self.own_writes(kernel, 0)
                    letters = invalidation(kernel, processor, 1, [(0, 1), (0, 2), (0, 7)])
                    middle = own + letters + self.child_writes(kernel, child)
                    self.check(kernel, ("fork", 0), middle, ("ok", child), processor, len(own + letters))
                    self.assertEqual(words(kernel), {
                        (0, 1): ("frame", 2, False), (0, 2): ("frame", 4, False), (0, 4): ("swap", 1),
                        (0, 5): ("frame", 1, True), (0, 6): ("file", 1, 1), (0, 7): ("frame", 0, False),
                        (child, 1): ("frame", 2, False), (child, 2): ("frame", 4, False), (child, 4): ("swap", 1),
                        (child, 7): ("frame", 0, False),
                    })
                    self.assertEqual(owners(kernel), ([
                        [(0, 7), (child, 7)], [("file", 1, 0), (0, 5)], [(0, 1), (child, 1)], [], [(0, 2), (child, 2)],
                    ], [[], [(0, 4), (child, 4)], []]))
                    self.assertEqual(kernel.spaces, {space: self.AREAS for space in (*spaces, child)})
                    self.assertEqual((kernel.ticket, kernel.frames.free(), kernel.blocks.free()), (1, [3], [0, 2]))
                    self.assertEqual(swap_value(kernel, 1), (7, 8))

    def test_a_fork_of_a_child(self):
        kernel = self.kernel()
        run(kernel.memory, 0, Calling(kernel, 0, ("fork", 0)))
        middle = self.own_writes(kernel, 1) + invalidation(kernel, 0, 2, [(1, 1), (1, 2), (1, 7)])
        self.check(kernel, ("fork", 1), middle + self.child_writes(kernel, 2), ("ok", 2), 0, len(middle))
        self.assertEqual(kernel.frames.owners(2), [(0, 1), (1, 1), (2, 1)])
        self.assertEqual(kernel.blocks.owners(1), [(0, 4), (1, 4), (2, 4)])

    def test_a_space_without_private_pages_in_frames(self):
        # The last access so far is that which takes the lock.
        kernel = kernel_with({0: []}, 3)
        self.check(kernel, ("fork", 0), [], ("ok", 1), 1, 0)
        self.assertEqual(kernel.spaces, {0: [], 1: []})
        kernel = kernel_with({2: [(1, 4, "rw", None), (5, 2, "rw", (1, 0))]}, 3)
        fill(kernel, 1, [("file", 1, 0), (2, 5)], (5, 6), True)
        fill_block(kernel, 1, [(2, 4)], (7, 8))
        self.check(kernel, ("fork", 2), [("write", kernel.word_cell((0, 4)), ("swap", 1))], ("ok", 0), 1, 0)
        self.assertEqual(words(kernel), {(2, 5): ("frame", 1, True), (2, 4): ("swap", 1), (0, 4): ("swap", 1)})
        self.assertEqual((kernel.ticket, kernel.spaces[0]), (0, kernel.spaces[2]))

    def test_the_lists_of_areas_are_not_one(self):
        kernel = kernel_with({0: [(0, 2, "rw", None)]})
        run(kernel.memory, 0, Calling(kernel, 0, ("fork", 0)))
        run(kernel.memory, 0, Calling(kernel, 0, ("map", 1, 4, 1, "r", None)))
        run(kernel.memory, 0, Calling(kernel, 0, ("unmap", 0, 0, 1)))
        self.assertEqual(kernel.spaces, {0: [(1, 1, "rw", None)], 1: [(0, 2, "rw", None), (4, 1, "r", None)]})

    def test_refusals(self):
        for space in (1, 2, 3):
            self.check_refusal(self.kernel(), ("fork", space), "none")
        full = self.kernel(2, (0, 1, 2, 3))
        for space in range(4):
            self.check_refusal(full, ("fork", space), "full")

    def test_the_child_exists_from_the_moment_of_the_witness(self):
        for processors in (1, 2):
            kernel = self.kernel(processors)
            memory = kernel.memory
            machine = Calling(kernel, 0, ("fork", 0))
            stack = Stack(machine)
            while machine.witness is None:
                self.assertEqual(list(kernel.spaces), [0])
                stack.step(memory, 0)
                take_letters(memory)
            self.assertEqual(kernel.spaces, {0: self.AREAS, 1: self.AREAS})
            number, processor, request = memory.log()[machine.witness - 1]
            self.assertEqual((number, processor), (machine.witness, 0))
            last = ("read", 2) if processors == 2 else ("write", kernel.word_cell((0, 7)), ("frame", 0, False))
            self.assertEqual(request, last)
            self.assertEqual([pair for pair in words(kernel) if pair[0] == 1], [])
            witness = machine.witness
            # The child's pages become owners one by one, each ahead of its word.
            for child_pages in ([1], [1, 2], [1, 2, 4], [1, 2, 4, 7]):
                places = [page for page in range(8) if kernel.frames.place_of((1, page)) is not None
                          or kernel.blocks.place_of((1, page)) is not None]
                self.assertEqual(places, child_pages)
                stack.step(memory, 0)
                self.assertEqual([page for space, page in words(kernel) if space == 1], child_pages)
                self.assertEqual(machine.witness, witness)
            stack.step(memory, 0)
            self.assertEqual(stack.value(), (("ok", 1), witness))

    def test_the_witness_is_no_taking_of_a_letter_and_no_access_of_another_processor(self):
        kernel = self.kernel(3)
        memory = kernel.memory
        machine = Calling(kernel, 0, ("fork", 0))
        stack = Stack(machine)
        last = None
        while machine.witness is None:
            stack.step(memory, 0)
            last = memory.count
            for processor in (2, 1):
                if memory.boxes[processor].letters():
                    memory.access(processor, ("take",))
            memory.access(1, ("read", 5))
        self.assertEqual(machine.witness, last)

    def test_no_private_cell_changes_behind_the_witness(self):
        kernel = self.kernel(2)
        memory = kernel.memory
        for page in (1, 2):
            memory.access(1, ("walk", 0, page))
        machine = Calling(kernel, 0, ("fork", 0))
        stack = Stack(machine)
        stored = 3
        while not stack.ended():
            stack.step(memory, 0)
            if machine.witness is not None:
                for space in (0, 1):
                    for page in (1, 2, 4, 7):
                        memory.access(1, ("walk", space, page))
                        self.assertIs(memory.access(1, ("store", space, page, 0, 99))[0], False)
            elif memory.access(1, ("store", 0, 1, 0, memory.count))[0]:
                stored = memory.count - 1
            elif memory.boxes[1].letters():
                memory.access(1, ("take",))
            if memory.boxes[1].letters() and memory.count > 30:
                memory.access(1, ("take",))
        self.assertEqual(frame_values(kernel, 2), (stored, 4))
        self.assertGreater(stored, 3)

    def test_shared_pages_can_be_stored_meanwhile(self):
        kernel = self.kernel(2)
        memory = kernel.memory
        memory.access(1, ("walk", 0, 5))
        stack = Stack(Calling(kernel, 0, ("fork", 0)))
        while not stack.ended():
            stack.step(memory, 0)
            self.assertIs(memory.access(1, ("store", 0, 5, 1, memory.count))[0], True)
            take_letters(memory)


class FirstAndLastPageTest(CallCase):
    def kernel(self):
        """Page 0 of space 0 is in a frame and page 7 in a block; of space 1 it is the other way round."""
        kernel = kernel_with({0: RW, 1: RW})
        fill(kernel, 0, [(0, 0)], (1, 2), True)
        fill(kernel, 1, [(1, 7)], (3, 4), True)
        fill_block(kernel, 0, [(0, 7)], (5, 6))
        fill_block(kernel, 1, [(1, 0)], (7, 8))
        return kernel

    def check_fork(self, kernel, space, page, new):
        own = [("write", kernel.word_cell((space, page)), new[page])]
        own += invalidation(kernel, 0, 1, [(space, page)])
        middle = own + [("write", kernel.word_cell((2, at)), new[at]) for at in (0, 7)]
        self.check(kernel, ("fork", space), middle, ("ok", 2), 0, len(own))

    def test_fork(self):
        self.check_fork(self.kernel(), 0, 0, {0: ("frame", 0, False), 7: ("swap", 0)})
        self.check_fork(self.kernel(), 1, 7, {0: ("swap", 1), 7: ("frame", 1, False)})

    def test_end(self):
        for space in (0, 1):
            kernel = self.kernel()
            pairs = [(space, page) for page in range(8)]
            middle = writes(kernel, pairs, None) + invalidation(kernel, 0, 1, pairs)
            self.check(kernel, ("end", space), middle, ("ok", None))
            self.assertEqual(sorted(words(kernel)), [(1 - space, 0), (1 - space, 7)])


class FourSpacesTest(CallCase):
    def test_only_begin_and_fork_are_full(self):
        spaces = {0: R, 1: R, 2: [], 3: R}
        for call, after in (
            (("map", 2, 0, 8, "r", None), {**spaces, 2: R}), (("unmap", 2, 0, 8), spaces),
            (("protect", 2, 0, 8, "r"), spaces), (("protect", 0, 0, 8, "rw"), {**spaces, 0: RW}), (("evict",), spaces),
            (("sync", 0), spaces), (("end", 2), {0: R, 1: R, 3: R}),
        ):
            self.check_kernel_alone(kernel_with(spaces), call, ("ok", None), after)


class EvictTest(CallCase):
    def test_a_private_frame(self):
        for processors in (1, 2, 3):
            kernel = kernel_with({0: RW, 1: RW}, processors)
            fill(kernel, 1, [(1, 2), (0, 2)], (3, 4))
            middle = writes(kernel, [(1, 2), (0, 2)], ("swap", 0)) + invalidation(kernel, 0, 1, [(1, 2), (0, 2)])
            middle += reads(kernel, 1) + [("write", kernel.sizes.swap_block(0), (3, 4))]
            self.check(kernel, ("evict",), middle, ("ok", None))
            self.assertEqual((kernel.frames.free(), kernel.frames.in_hands()), ([0, 1, 2, 3], []))
            self.assertEqual((kernel.blocks.owners(0), kernel.hand.points_to()), ([(1, 2), (0, 2)], 2))

    def test_a_page_of_a_file(self):
        kernel = kernel_with({0: [(0, 4, "rw", (1, 0))]}, 2, 2, 0)
        fill(kernel, 1, [("file", 1, 2), (0, 2)], (3, 4), True)
        middle = writes(kernel, [(0, 2)], ("file", 1, 2)) + invalidation(kernel, 1, 1, [(0, 2)])
        middle += reads(kernel, 1) + [("write", kernel.sizes.file_block(1, 2), (3, 4))]
        self.check(kernel, ("evict",), middle, ("ok", None), 1)
        self.assertEqual((kernel.frames.free(), file_value(kernel, 1, 2)), ([0, 1], (3, 4)))

    def test_the_hand_goes_on(self):
        kernel = kernel_with({0: RW}, 1)
        for frame in range(4):
            fill(kernel, frame, [(0, frame)], (frame, 9))
        for frame, block in ((0, 0), (1, 1), (2, 2)):
            run(kernel.memory, 0, Calling(kernel, 0, ("evict",)))
            self.assertEqual((kernel.hand.points_to(), kernel.blocks.owners(block)), (frame + 1, [(0, frame)]))
        # No block is free any more.
        self.check_kernel_alone(kernel, ("evict",), ("ok", None), {0: RW})

    def test_without_a_victim(self):
        self.check_kernel_alone(kernel_with({0: RW}, 3), ("evict",), ("ok", None), {0: RW})
        kernel = kernel_with({0: RW}, 2, 2, 0)
        fill(kernel, 0, [(0, 1)], (5, 6))
        self.check_kernel_alone(kernel, ("evict",), ("ok", None), {0: RW})


class SyncTest(CallCase):
    def kernel(self, processors=2):
        """Pages 3 and 1 of file 1 are cached, page 1 with nobody leading to it, and page 2 of file 0."""
        kernel = kernel_with({0: [(0, 4, "rw", (1, 0))]}, processors)
        fill(kernel, 0, [("file", 1, 3), (0, 3)], (3, 4), True)
        fill(kernel, 1, [("file", 0, 2)], (5, 6))
        fill(kernel, 3, [("file", 1, 1)], (7, 8))
        return kernel

    def test_the_pages_that_are_cached(self):
        for processors in (1, 3):
            kernel = self.kernel(processors)
            before = (words(kernel), kernel_state(kernel))
            middle = reads(kernel, 3) + [("write", kernel.sizes.file_block(1, 1), (7, 8))]
            middle += reads(kernel, 0) + [("write", kernel.sizes.file_block(1, 3), (3, 4))]
            self.check(kernel, ("sync", 1), middle, ("ok", None), processors - 1)
            self.assertEqual((words(kernel), kernel_state(kernel)), before)
            self.assertEqual([file_value(kernel, 1, page) for page in range(4)], [(0, 0), (7, 8), (0, 0), (3, 4)])
            self.assertEqual([file_value(kernel, 0, page) for page in range(4)], [(0, 0)] * 4)
            middle = reads(kernel, 1) + [("write", kernel.sizes.file_block(0, 2), (5, 6))]
            self.check(kernel, ("sync", 0), middle, ("ok", None))

    def test_a_file_of_which_nothing_is_cached(self):
        kernel = kernel_with({0: RW})
        fill(kernel, 0, [(0, 1)], (5, 6))
        for file in (0, 1):
            self.check_kernel_alone(kernel, ("sync", file), ("ok", None), {0: RW})

    def test_a_store_between_the_reads(self):
        kernel = self.kernel()
        memory = kernel.memory
        memory.access(1, ("walk", 0, 3))
        stack = Stack(Calling(kernel, 0, ("sync", 1)))
        # The lock, page 1, and the first cell of page 3.
        for _ in range(5):
            stack.step(memory, 0)
        for index in (0, 1):
            self.assertIs(memory.access(1, ("store", 0, 3, index, 50 + index))[0], True)
        while not stack.ended():
            stack.step(memory, 0)
        self.assertEqual((file_value(kernel, 1, 3), frame_values(kernel, 0)), ((3, 51), (50, 51)))


class LockTest(CallCase):
    CALLS = (
        ("map", 0, 1, 1, "r", None), ("unmap", 0, 1, 1), ("protect", 0, 1, 1, "r"), ("begin",), ("fork", 0), ("end", 0),
        ("evict",), ("sync", 1), ("map", 3, 1, 1, "r", None), ("fork", 3),
    )

    def test_the_lock_is_tried_again_and_again(self):
        for call in self.CALLS:
            kernel = kernel_with({0: []})
            memory = kernel.memory
            run(memory, 0, Locking(kernel, 0))
            before = kernel_state(kernel)
            machine = Calling(kernel, 1, call)
            stack = Stack(machine)
            for _ in range(5):
                stack.step(memory, 1)
            self.assertEqual([request for _, request in requests_since(memory, 1)], taking(1) * 5)
            self.assertEqual((kernel_state(kernel), machine.witness, stack.ended()), (before, None, False))
            run(memory, 0, Unlocking(kernel))
            stack.step(memory, 1)
            self.assertEqual((memory.peek(0), stack.ended()), (2, False))
            while not stack.ended():
                stack.step(memory, 1)
            self.assertEqual(memory.peek(0), 0)

    def test_what_holds_is_what_holds_when_the_lock_is_taken(self):
        for call, answer in (
            (("unmap", 2, 0, 1), ("ok", None)), (("end", 0), ("none", None)), (("begin",), ("ok", 0)),
            (("map", 2, 0, 1, "r", None), ("taken", None)), (("fork", 2), ("ok", 0)),
        ):
            kernel = kernel_with({0: []})
            memory = kernel.memory
            run(memory, 0, Locking(kernel, 0))
            stack = Stack(Calling(kernel, 1, call))
            stack.step(memory, 1)
            kernel.spaces = {2: RW, 1: []}
            run(memory, 0, Unlocking(kernel))
            while not stack.ended():
                stack.step(memory, 1)
                take_letters(memory)
            self.assertEqual(stack.value()[0], answer)


class CarefulTest(unittest.TestCase):
    """Point 14."""

    def test_asking_changes_nothing(self):
        for call in LockTest.CALLS:
            kernel = ForkTest().kernel(3)
            machine = Calling(kernel, 2, call)
            value = run_carefully(self, kernel, 2, machine)
            self.assertEqual(value[1], machine.witness)
            self.assertEqual(kernel.memory.peek(0), 0)

    def test_the_witness_of_a_fork_for_one_who_asks_again_and_again(self):
        kernel = ForkTest().kernel(2)
        (answer, witness) = run_carefully(self, kernel, 0, Calling(kernel, 0, ("fork", 0)))
        self.assertEqual((answer, word(kernel, (1, 4))), (("ok", 1), ("swap", 1)))
        self.assertEqual(kernel.memory.log()[witness - 1][2], ("read", 2))


if __name__ == "__main__":
    unittest.main()
