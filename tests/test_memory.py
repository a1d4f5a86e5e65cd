"""Points 3, 4, 5 and 11: the memory and its accesses."""

import unittest

from frametally import letters, memory
from frametally.errors import NotValid
from frametally.memory import Memory, Sizes
from tests.interface import check_class
from tests.play import Numbers, cells_of, new_memory, requests_since, state_of

VALUES = (None, 0, 1, -7, 10 ** 30, (), (0, 0), (1,), ("frame", 1, True), ("swap", 0), ("held",))

# What is no number of anything, whatever its bound is.
NO_NUMBERS = (-1, True, False, None, "0", (0,), [0])

LETTER = (1, ((0, 1),))


def with_frame(processors, word, processor=0, space=0, page=1):
    """A memory in which the processor has walked the page when its word was this one."""
    made = new_memory(processors, 3, 4)
    made.access(processor, ("write", made.sizes.word(space, page), word))
    made.access(processor, ("walk", space, page))
    return made


def change_cell(made, cell, value):
    made.access(0, ("write", cell, value))


class InterfaceTest(unittest.TestCase):
    def test_names_and_arguments(self):
        check_class(self, Sizes, "frametally.memory", {
            "__init__": ["processors", "frames", "blocks"],
            "lock": [],
            "acknowledge": ["processor"],
            "word": ["space", "page"],
            "frame_cell": ["frame", "index"],
            "swap_block": ["block"],
            "file_block": ["file", "page"],
            "cells": [],
        })
        check_class(self, Memory, "frametally.memory", {
            "__init__": ["sizes"],
            "access": ["processor", "request"],
            "peek": ["cell"],
            "log": [],
        })

    def test_the_numbers(self):
        self.assertEqual((memory.CELLS, memory.FILES, memory.FILE_PAGES), (2, 2, 4))
        self.assertEqual((letters.SPACES, letters.PAGES), (4, 8))

    def test_fields(self):
        sizes = Sizes(2, 3, 4)
        self.assertEqual((sizes.processors, sizes.frames, sizes.blocks), (2, 3, 4))
        made = Memory(sizes)
        self.assertIs(made.sizes, sizes)
        self.assertEqual(made.count, 0)
        self.assertEqual((len(made.buffers), len(made.boxes)), (2, 2))


class SizesTest(unittest.TestCase):
    def test_bounds(self):
        for processors in (1, 2, 3):
            for frames in (2, 7, 12):
                for blocks in (0, 5, 12):
                    sizes = Sizes(processors, frames, blocks)
                    self.assertEqual((sizes.processors, sizes.frames, sizes.blocks), (processors, frames, blocks))

    def test_beyond_the_bounds(self):
        for processors in (-1, 0, 4, 100):
            with self.assertRaises(NotValid):
                Sizes(processors, 3, 4)
        for frames in (-2, 0, 1, 13, 100):
            with self.assertRaises(NotValid):
                Sizes(2, frames, 4)
        for blocks in (-2, -1, 13, 100):
            with self.assertRaises(NotValid):
                Sizes(2, 3, blocks)

    def test_true_and_false_are_no_integers(self):
        for numbers in ((True, 3, 4), (2, 3, True), (2, 3, False)):
            with self.assertRaises(NotValid):
                Sizes(*numbers)

    def test_the_example(self):
        sizes = Sizes(2, 3, 4)
        self.assertEqual(sizes.lock(), 0)
        self.assertEqual(sizes.word(1, 2), 13)
        self.assertEqual(sizes.cells(), 53)

    def test_the_cells_stand_in_their_order_without_a_gap(self):
        for numbers in ((1, 2, 0), (2, 3, 4), (3, 12, 12), (3, 5, 1)):
            sizes = Sizes(*numbers)
            processors, frames, blocks = numbers
            found = [sizes.lock()]
            found.extend(sizes.acknowledge(processor) for processor in range(processors))
            found.extend(sizes.word(space, page) for space in range(4) for page in range(8))
            found.extend(sizes.frame_cell(frame, index) for frame in range(frames) for index in range(2))
            found.extend(sizes.swap_block(block) for block in range(blocks))
            found.extend(sizes.file_block(file, page) for file in range(2) for page in range(4))
            self.assertEqual(found, list(range(sizes.cells())))


class NewMemoryTest(unittest.TestCase):
    def test_the_values_of_the_cells(self):
        for processors, frames, blocks in ((1, 2, 0), (2, 3, 4), (3, 12, 12)):
            values = cells_of(new_memory(processors, frames, blocks))
            expected = [0] + [0] * processors + [None] * 32 + [0] * (2 * frames) + [(0, 0)] * (blocks + 8)
            self.assertEqual(values, expected)

    def test_boxes_and_buffers_are_empty(self):
        for processors in (1, 2, 3):
            made = new_memory(processors, 2, 0)
            self.assertEqual([buffer.entries() for buffer in made.buffers], [[]] * processors)
            self.assertEqual([box.letters() for box in made.boxes], [[]] * processors)
            self.assertEqual((made.count, made.log()), (0, []))

    def test_each_memory_is_its_own(self):
        sizes = Sizes(2, 3, 4)
        made, other = Memory(sizes), Memory(sizes)
        before = state_of(other)
        made.access(0, ("write", sizes.word(0, 1), ("frame", 0, True)))
        made.access(0, ("walk", 0, 1))
        made.access(0, ("send", 1, LETTER))
        self.assertEqual(state_of(other), before)

    def test_each_processor_has_its_own_buffer_and_box(self):
        made = with_frame(3, ("frame", 0, True), processor=1)
        made.access(0, ("send", 2, LETTER))
        self.assertEqual([buffer.entries() for buffer in made.buffers], [[], [(0, 1, 0, True)], []])
        self.assertEqual([box.letters() for box in made.boxes], [[], [], [LETTER]])


class CellTest(unittest.TestCase):
    """The accesses "read", "write" and "swap"."""

    def test_every_cell_is_written_and_read(self):
        made = new_memory(2, 3, 4)
        many = made.sizes.cells()
        for cell in range(many):
            self.assertEqual(made.access(cell % 2, ("write", cell, cell + 100)), (None, cell + 1))
        self.assertEqual(cells_of(made), [cell + 100 for cell in range(many)])
        for cell in range(many):
            self.assertEqual(made.access(cell % 2, ("read", cell)), (cell + 100, many + cell + 1))
        self.assertEqual(cells_of(made), [cell + 100 for cell in range(many)])

    def test_a_write_changes_one_cell(self):
        made = new_memory(2, 3, 4)
        for value in VALUES:
            expected = cells_of(made)
            expected[41] = value
            self.assertIsNone(made.access(0, ("write", 41, value))[0])
            self.assertEqual(cells_of(made), expected)
            self.assertEqual(made.access(1, ("read", 41))[0], value)
            self.assertEqual(made.peek(41), value)

    def test_a_swap_of_an_equal_value(self):
        for old in VALUES:
            for new in VALUES:
                made = new_memory(1, 2, 1)
                made.access(0, ("write", 3, old))
                expected = cells_of(made)
                expected[3] = new
                self.assertIs(made.access(0, ("swap", 3, old, new))[0], True)
                self.assertEqual(cells_of(made), expected)

    def test_a_swap_of_another_value(self):
        for held in VALUES:
            for old in VALUES:
                if held != old:
                    made = new_memory(1, 2, 1)
                    made.access(0, ("write", 3, held))
                    before = cells_of(made)
                    self.assertIs(made.access(0, ("swap", 3, old, 99))[0], False)
                    self.assertEqual(cells_of(made), before)

    def test_a_swap_looks_at_its_own_cell(self):
        made = new_memory(2, 3, 4)
        made.access(0, ("write", 0, 5))
        self.assertIs(made.access(0, ("swap", 1, 5, 6))[0], False)
        self.assertIs(made.access(1, ("swap", 0, 5, 6))[0], True)
        self.assertEqual((made.peek(0), made.peek(1)), (6, 0))


class LetterTest(unittest.TestCase):
    """The accesses "send" and "take"; points 5 and 11."""

    def test_a_letter_stands_behind_those_that_are_there(self):
        made = new_memory(3, 3, 4)
        first, second = (1, ((0, 1),)), (2, ((3, 7), (0, 0)))
        before = cells_of(made)
        self.assertEqual(made.access(0, ("send", 2, first)), (None, 1))
        self.assertEqual(made.access(1, ("send", 2, second)), (None, 2))
        self.assertEqual([box.letters() for box in made.boxes], [[], [], [first, second]])
        self.assertEqual(cells_of(made), before)

    def test_letters_are_taken_in_order(self):
        made = new_memory(3, 3, 4)
        for ticket in (4, 2, 9):
            made.access(0, ("send", 1, (ticket, ((0, 1),))))
        for ticket, left in ((4, [2, 9]), (2, [9]), (9, [])):
            self.assertIs(made.access(1, ("take",))[0], True)
            self.assertEqual([letter[0] for letter in made.boxes[1].letters()], left)
            self.assertEqual([made.peek(made.sizes.acknowledge(processor)) for processor in range(3)], [0, ticket, 0])

    def test_an_empty_box(self):
        made = with_frame(2, ("frame", 0, True))
        made.access(1, ("send", 1, LETTER))
        before = state_of(made)
        self.assertEqual(made.access(0, ("take",)), (False, before[0] + 1))
        self.assertEqual(state_of(made)[:4], (before[0] + 1, *before[1:4]))

    def test_taking_drops_just_the_pairs_from_the_takers_buffer(self):
        made = new_memory(3, 3, 4)
        for page in (1, 2):
            made.access(0, ("write", made.sizes.word(0, page), ("frame", page, True)))
        for processor in range(3):
            for page in (1, 2):
                made.access(processor, ("walk", 0, page))
        both = [(0, 1, 1, True), (0, 2, 2, True)]
        made.access(0, ("send", 1, (5, ((0, 1), (1, 2)))))
        made.access(0, ("send", 2, (6, ((0, 2), (0, 1)))))
        # A letter that is not taken drops nothing.
        self.assertEqual([buffer.entries() for buffer in made.buffers], [both, both, both])
        made.access(1, ("take",))
        self.assertEqual([buffer.entries() for buffer in made.buffers], [both, both[1:], both])
        self.assertEqual([len(box.letters()) for box in made.boxes], [0, 0, 1])
        made.access(2, ("take",))
        self.assertEqual([buffer.entries() for buffer in made.buffers], [both, both[1:], []])

    def test_taking_changes_no_cell_but_the_acknowledge_word(self):
        for taker in range(3):
            made = new_memory(3, 3, 4)
            made.access(0, ("send", taker, (8, ((0, 1),))))
            expected = cells_of(made)
            expected[made.sizes.acknowledge(taker)] = 8
            made.access(taker, ("take",))
            self.assertEqual(cells_of(made), expected)

    def test_dropping_without_an_access(self):
        made = with_frame(2, ("frame", 0, True))
        before = state_of(made)
        made.buffers[0].drop([(0, 1)])
        after = state_of(made)
        self.assertEqual(after[2], [[], []])
        self.assertEqual((after[:2], after[3:]), (before[:2], before[3:]))
        self.assertIsNone(made.access(0, ("load", 0, 1, 0))[0])


class WalkTest(unittest.TestCase):
    def test_every_kind_of_word(self):
        for word in (None, ("swap", 3), ("held",), ("file", 1, 3)):
            made = with_frame(2, word)
            self.assertEqual(made.buffers[0].entries(), [])
            self.assertEqual(made.access(0, ("walk", 0, 1)), (word, 3))
        for word in (("frame", 2, True), ("frame", 0, False)):
            made = with_frame(2, word)
            self.assertEqual(made.buffers[0].entries(), [(0, 1, word[1], word[2])])
            self.assertEqual(made.access(0, ("walk", 0, 1)), (word, 3))

    def test_every_page_has_its_own_word(self):
        made = new_memory(1, 2, 0)
        for space in range(4):
            for page in range(8):
                change_cell(made, made.sizes.word(space, page), ("frame", page % 2, space == 1))
        for space in range(4):
            for page in range(8):
                word = ("frame", page % 2, space == 1)
                self.assertEqual(made.access(0, ("walk", space, page))[0], word)
                self.assertEqual(made.buffers[0].entries()[-1], (space, page, page % 2, space == 1))

    def test_only_the_buffer_of_the_processor_changes(self):
        made = with_frame(3, ("frame", 1, True), processor=2, space=3, page=7)
        self.assertEqual([buffer.entries() for buffer in made.buffers], [[], [], [(3, 7, 1, True)]])
        before = cells_of(made)
        made.access(1, ("walk", 3, 7))
        self.assertEqual(cells_of(made), before)

    def test_another_word_takes_the_entry_out(self):
        made = with_frame(1, ("frame", 1, True))
        change_cell(made, made.sizes.word(0, 1), ("swap", 0))
        self.assertEqual(made.buffers[0].entries(), [(0, 1, 1, True)])
        self.assertEqual(made.access(0, ("walk", 0, 1))[0], ("swap", 0))
        self.assertEqual(made.buffers[0].entries(), [])

    def test_the_eldest_of_three_entries_falls_out(self):
        made = new_memory(1, 3, 0)
        for page in range(3):
            change_cell(made, made.sizes.word(0, page), ("frame", page, True))
            made.access(0, ("walk", 0, page))
        self.assertEqual(made.buffers[0].entries(), [(0, 1, 1, True), (0, 2, 2, True)])


class EntryTest(unittest.TestCase):
    """The accesses "load", "store" and "change"."""

    def test_with_a_writable_entry(self):
        for frame in range(3):
            for index in (0, 1):
                made = with_frame(2, ("frame", frame, True))
                cell = made.sizes.frame_cell(frame, index)
                self.assertEqual(made.access(0, ("load", 0, 1, index)), ((0,), 3))
                expected = cells_of(made)
                expected[cell] = 7
                self.assertEqual(made.access(0, ("store", 0, 1, index, 7)), (True, 4))
                self.assertEqual(cells_of(made), expected)
                self.assertEqual(made.access(0, ("load", 0, 1, index)), ((7,), 5))
                self.assertEqual(made.access(0, ("change", 0, 1, index, 8, 9)), ((7,), 6))
                self.assertEqual(cells_of(made), expected)
                expected[cell] = 8
                self.assertEqual(made.access(0, ("change", 0, 1, index, 7, 8)), (("done",), 7))
                self.assertEqual(cells_of(made), expected)

    def test_with_a_read_only_entry(self):
        made = with_frame(2, ("frame", 2, False))
        change_cell(made, made.sizes.frame_cell(2, 1), 5)
        before = cells_of(made)
        self.assertEqual(made.access(0, ("load", 0, 1, 1)), ((5,), 4))
        self.assertEqual(made.access(0, ("store", 0, 1, 1, 7)), (False, 5))
        self.assertEqual(made.access(0, ("change", 0, 1, 1, 5, 7)), (None, 6))
        self.assertEqual(made.access(0, ("change", 0, 1, 1, 6, 7)), (None, 7))
        self.assertEqual(cells_of(made), before)

    def test_without_an_entry(self):
        made = with_frame(2, ("frame", 2, True))
        before = cells_of(made)
        # Another processor, another page, another space.
        for processor, space, page in ((1, 0, 1), (0, 0, 2), (0, 1, 1), (0, 1, 0)):
            self.assertIsNone(made.access(processor, ("load", space, page, 0))[0])
            self.assertIs(made.access(processor, ("store", space, page, 0, 7))[0], False)
            self.assertIsNone(made.access(processor, ("change", space, page, 0, 0, 7))[0])
        self.assertEqual(cells_of(made), before)
        self.assertEqual([buffer.entries() for buffer in made.buffers], [[(0, 1, 2, True)], []])

    def test_every_kind_of_value(self):
        for value in VALUES:
            made = with_frame(1, ("frame", 1, True))
            self.assertIs(made.access(0, ("store", 0, 1, 0, value))[0], True)
            self.assertEqual(made.access(0, ("load", 0, 1, 0))[0], (value,))
            self.assertEqual(made.access(0, ("change", 0, 1, 0, 99, 1))[0], (value,))
            self.assertEqual(made.access(0, ("change", 0, 1, 0, value, 99))[0], ("done",))
            self.assertEqual(made.peek(made.sizes.frame_cell(1, 0)), 99)
            self.assertEqual(made.access(0, ("change", 0, 1, 0, 99, value))[0], ("done",))
            self.assertEqual(made.access(0, ("load", 0, 1, 0))[0], (value,))

    def test_a_change_to_the_same_value(self):
        made = with_frame(1, ("frame", 1, True))
        self.assertEqual(made.access(0, ("change", 0, 1, 0, 0, 0))[0], ("done",))
        self.assertEqual(made.access(0, ("change", 0, 1, 0, 5, 0))[0], (0,))

    def test_the_table_word_is_not_looked_at(self):
        for word in (None, ("swap", 0), ("held",), ("frame", 0, False)):
            made = with_frame(2, ("frame", 1, True))
            change_cell(made, made.sizes.word(0, 1), word)
            self.assertIs(made.access(0, ("store", 0, 1, 0, 7))[0], True)
            self.assertEqual(made.access(0, ("change", 0, 1, 0, 7, 8))[0], ("done",))
            self.assertEqual(made.access(0, ("load", 0, 1, 0))[0], (8,))
            self.assertEqual(made.peek(made.sizes.frame_cell(1, 0)), 8)

    def test_an_entry_may_be_used_after_its_word_became_writable(self):
        made = with_frame(1, ("frame", 1, False))
        change_cell(made, made.sizes.word(0, 1), ("frame", 1, True))
        self.assertIs(made.access(0, ("store", 0, 1, 0, 7))[0], False)
        made.access(0, ("walk", 0, 1))
        self.assertIs(made.access(0, ("store", 0, 1, 0, 7))[0], True)

    def test_two_pages_may_lead_to_one_frame(self):
        made = with_frame(2, ("frame", 1, True))
        change_cell(made, made.sizes.word(2, 5), ("frame", 1, False))
        made.access(1, ("walk", 2, 5))
        made.access(0, ("store", 0, 1, 1, 7))
        self.assertEqual(made.access(1, ("load", 2, 5, 1))[0], (7,))

    def test_use_does_not_change_the_order_of_the_entries(self):
        made = with_frame(1, ("frame", 0, True))
        change_cell(made, made.sizes.word(0, 2), ("frame", 1, True))
        made.access(0, ("walk", 0, 2))
        for request in (("load", 0, 1, 0), ("store", 0, 1, 0, 5), ("change", 0, 1, 0, 5, 6)):
            made.access(0, request)
            self.assertEqual(made.buffers[0].entries(), [(0, 1, 0, True), (0, 2, 1, True)])


def shapes(many_cells, many_processors):
    """The requests that exist, each with the bounds of its parts that are numbers."""
    return (
        (("read", 0), {1: many_cells}),
        (("write", 0, 7), {1: many_cells}),
        (("swap", 0, 0, 7), {1: many_cells}),
        (("send", 0, LETTER), {1: many_processors}),
        (("take",), {}),
        (("walk", 0, 1), {1: 4, 2: 8}),
        (("load", 0, 1, 0), {1: 4, 2: 8, 3: 2}),
        (("store", 0, 1, 0, 7), {1: 4, 2: 8, 3: 2}),
        (("change", 0, 1, 0, 0, 7), {1: 4, 2: 8, 3: 2}),
    )


def replaced(request, place, part):
    return request[:place] + (part,) + request[place + 1:]


def bad_requests(many_cells, many_processors):
    """Requests that are none of point 4, or name what does not exist."""
    found = [None, 0, 1, True, "", "read", "take", [], {}, (), (None,), (0,), (1, 2), ("",), ("reads", 0)]
    found.extend([("call", None), ("end", None), ("Read", 0), ("peek", 0), ("drop", 0), ("t",), (["read"], 0)])
    for request, bounds in shapes(many_cells, many_processors):
        found.append(list(request))
        found.append(request + (0,))
        found.append((request,))
        found.append((0,) + request)
        if len(request) > 1:
            found.append(request[:-1])
            found.append(request[1:])
        found.append(replaced(request, 0, request[0] + "s"))
        found.append(replaced(request, 0, None))
        for place, bound in bounds.items():
            for part in NO_NUMBERS + (bound, bound + 1, 10 ** 30):
                found.append(replaced(request, place, part))
    for letter in (None, 0, (), (1,), (1, ()), (0, ((0, 1),)), (True, ((0, 1),)), (1, [(0, 1)]), [1, ((0, 1),)],
                   (1, ((0, 1), (4, 0))), (1, ((0, 8),)), (1, ((-1, 0),)), (1, ((True, 0),)), (1, (0, 1))):
        found.append(("send", 1, letter))
    return found


def used_memory():
    """A memory in which something stands everywhere."""
    made = new_memory(2, 3, 4)
    for page in (1, 2):
        made.access(0, ("write", made.sizes.word(0, page), ("frame", page, True)))
        made.access(0, ("walk", 0, page))
        made.access(1, ("walk", 0, page))
    made.access(0, ("store", 0, 1, 0, 5))
    for processor in (0, 1):
        made.access(0, ("send", processor, (3, ((0, 1),))))
    return made


class RefusalTest(unittest.TestCase):
    def check_refused(self, made, function, *arguments):
        before = state_of(made)
        with self.assertRaises(NotValid):
            function(*arguments)
        self.assertEqual(state_of(made), before)

    def test_requests_that_are_none(self):
        made = used_memory()
        for request in bad_requests(made.sizes.cells(), 2):
            with self.subTest(request=request):
                self.check_refused(made, made.access, 0, request)

    def test_processors_that_do_not_exist(self):
        for processors in (1, 2, 3):
            made = new_memory(processors, 2, 0)
            for processor in NO_NUMBERS + (processors, processors + 1):
                for request in (("read", 0), ("take",), ("walk", 0, 0)):
                    with self.subTest(processors=processors, processor=processor):
                        self.check_refused(made, made.access, processor, request)
            for to in (-1, processors):
                self.check_refused(made, made.access, 0, ("send", to, LETTER))

    def test_both_are_wrong(self):
        made = used_memory()
        self.check_refused(made, made.access, 2, ("read", -1))

    def test_the_numbers_at_the_bounds_exist(self):
        made = used_memory()
        for request, bounds in shapes(made.sizes.cells(), 2):
            for place, bound in bounds.items():
                for part in (0, bound - 1):
                    count = made.count
                    self.assertEqual(made.access(1, replaced(request, place, part))[1], count + 1)

    def test_peek(self):
        for sizes in (Sizes(1, 2, 0), Sizes(2, 3, 4), Sizes(3, 12, 12)):
            made = Memory(sizes)
            for cell in NO_NUMBERS + (sizes.cells(), sizes.cells() + 1):
                with self.subTest(cell=cell):
                    self.check_refused(made, made.peek, cell)
            self.assertEqual(made.peek(0), 0)
            self.assertEqual(made.peek(sizes.cells() - 1), (0, 0))
            self.assertEqual((made.count, made.log()), (0, []))

    def test_what_was_refused_is_not_counted(self):
        made = new_memory(2, 2, 0)
        self.assertEqual(made.access(0, ("read", 0)), (0, 1))
        for request in (("read", -1), ("send", 0, (0, ((0, 0),))), None):
            with self.assertRaises(NotValid):
                made.access(0, request)
        self.assertEqual(made.access(1, ("read", 0)), (0, 2))
        self.assertEqual(made.log(), [(1, 0, ("read", 0)), (2, 1, ("read", 0))])


class LogTest(unittest.TestCase):
    def test_every_access_in_order(self):
        made = new_memory(3, 3, 4)
        expected = []
        requests = [request for request, _ in shapes(made.sizes.cells(), 3)]
        for number, request in enumerate(requests + requests, start=1):
            processor = number % 3
            # What does not succeed is an access, too.
            self.assertEqual(made.access(processor, request)[1], number)
            expected.append((number, processor, request))
            self.assertEqual(made.log(), expected)
            self.assertEqual(made.count, number)

    def test_peek_is_no_access(self):
        made = new_memory(1, 2, 0)
        made.access(0, ("read", 0))
        made.peek(0)
        self.assertEqual((made.count, made.log()), (1, [(1, 0, ("read", 0))]))

    def test_a_returned_list_is_the_callers(self):
        made = new_memory(1, 2, 0)
        made.log().append((1, 0, ("read", 0)))
        self.assertEqual(made.log(), [])
        made.access(0, ("read", 0))
        made.log().clear()
        self.assertEqual(made.log(), [(1, 0, ("read", 0))])

    def test_a_returned_list_is_not_changed_later(self):
        made = new_memory(1, 2, 0)
        made.access(0, ("read", 0))
        found = made.log()
        made.access(0, ("read", 1))
        self.assertEqual(found, [(1, 0, ("read", 0))])


class Model:
    """A memory as dicts, for the accesses of one test."""

    def __init__(self, sizes):
        self.cells = dict(enumerate(cells_of(Memory(sizes))))
        self.entries = [{} for _ in range(sizes.processors)]
        self.letters = [[] for _ in range(sizes.processors)]
        self.sizes = sizes

    def result(self, processor, name, *parts):
        return getattr(self, name)(processor, *parts)

    def read(self, processor, cell):
        return self.cells[cell]

    def write(self, processor, cell, value):
        self.cells[cell] = value

    def swap(self, processor, cell, old, new):
        same = self.cells[cell] == old
        self.cells[cell] = new if same else self.cells[cell]
        return same

    def send(self, processor, to, letter):
        self.letters[to] = self.letters[to] + [letter]

    def take(self, processor):
        for ticket, pairs in self.letters[processor][:1]:
            del self.letters[processor][0]
            for pair in pairs:
                self.entries[processor].pop(pair, None)
            self.cells[self.sizes.acknowledge(processor)] = ticket
            return True
        return False

    def walk(self, processor, space, page):
        entries = self.entries[processor]
        word = self.cells[self.sizes.word(space, page)]
        entries.pop((space, page), None)
        if word is not None and word[0] == "frame":
            entries[(space, page)] = word[1:]
        if len(entries) > 2:
            del entries[next(iter(entries))]
        return word

    def load(self, processor, space, page, index):
        if (space, page) in self.entries[processor]:
            frame, _ = self.entries[processor][(space, page)]
            return (self.cells[self.sizes.frame_cell(frame, index)],)
        return None

    def store(self, processor, space, page, index, value):
        frame, writable = self.entries[processor].get((space, page), (None, False))
        if writable:
            self.cells[self.sizes.frame_cell(frame, index)] = value
        return writable

    def change(self, processor, space, page, index, old, new):
        frame, writable = self.entries[processor].get((space, page), (None, False))
        if not writable:
            return None
        cell = self.sizes.frame_cell(frame, index)
        return ("done",) if self.swap(processor, cell, old, new) else (self.cells[cell],)


class ManyAccessesTest(unittest.TestCase):
    """Long sequences of accesses, compared with dicts."""

    WORDS = (("frame", 0, True), ("frame", 1, True), ("frame", 1, False), ("frame", 2, True), None, ("swap", 0))

    def request(self, numbers, sizes):
        page = (numbers.below(2), numbers.below(2))
        entry = (*page, numbers.below(2))
        frame_cell = sizes.frame_cell(numbers.below(3), numbers.below(2))
        return numbers.one_of((
            ("read", numbers.below(sizes.cells())),
            ("write", frame_cell, numbers.below(3)),
            ("write", sizes.word(*page), numbers.one_of(self.WORDS)),
            ("swap", frame_cell, numbers.below(3), numbers.below(3)),
            ("send", numbers.below(sizes.processors), (1 + numbers.below(9), (page, (0, 0)))),
            ("take",),
            ("walk", *page),
            ("load", *entry),
            ("store", *entry, numbers.below(3)),
            ("change", *entry, numbers.below(3), numbers.below(3)),
        ))

    def check(self, made, model):
        self.assertEqual(cells_of(made), [model.cells[cell] for cell in range(made.sizes.cells())])
        for processor in range(made.sizes.processors):
            entries = [pair + rest for pair, rest in model.entries[processor].items()]
            self.assertEqual(made.buffers[processor].entries(), entries)
            self.assertEqual(made.boxes[processor].letters(), model.letters[processor])

    def test_many_accesses(self):
        for seed in range(6):
            numbers = Numbers(seed)
            made = new_memory(1 + seed % 3, 3, 1)
            model = Model(made.sizes)
            for number in range(1, 1501):
                processor = numbers.below(made.sizes.processors)
                request = self.request(numbers, made.sizes)
                expected = (model.result(processor, *request), number)
                self.assertEqual(made.access(processor, request), expected)
                self.assertEqual(requests_since(made, number - 1), [(processor, request)])
                if number % 10 == 0:
                    self.check(made, model)


if __name__ == "__main__":
    unittest.main()
