"""Points 44 to 47: the world."""

import unittest

from frametally.errors import NotValid
from frametally.kernel import Kernel
from frametally.memory import Memory
from frametally.world import World
from tests.interface import check_class
from tests.play import Numbers, kernel_state, new_kernel, requests_since, state_of
from tests.worlds import new_calls

MAP = ("map", 0, 0, 8, "rw", None)
LOAD = ("load", 0, 3, 1)
STORE = ("store", 0, 3, 1, 7)


def new_world(*calls, frames=4, blocks=2):
    """A world with a processor for each list of calls."""
    return World(len(calls), frames, blocks, [list(row) for row in calls])


def seen(world):
    """All that can be seen of a world."""
    many = world.memory.sizes.processors
    return (
        state_of(world.memory), kernel_state(world.kernel), world.history(), [world.idle(at) for at in range(many)],
        world.is_quiet(),
    )


class InterfaceTest(unittest.TestCase):
    def test_names_and_arguments(self):
        check_class(self, World, "frametally.world", {
            "__init__": ["processors", "frames", "blocks", "calls"],
            "play": ["picks"],
            "settle": ["rounds"],
            "idle": ["processor"],
            "history": [],
            "is_quiet": [],
        })

    def test_a_new_world(self):
        for processors, frames, blocks in ((1, 2, 0), (2, 3, 4), (3, 12, 12)):
            world = World(processors, frames, blocks, [[MAP, LOAD]] * processors)
            self.assertIsInstance(world.memory, Memory)
            self.assertIsInstance(world.kernel, Kernel)
            self.assertIs(world.kernel.memory, world.memory)
            sizes = world.memory.sizes
            self.assertEqual((sizes.processors, sizes.frames, sizes.blocks), (processors, frames, blocks))
            kernel = new_kernel(processors, frames, blocks)
            self.assertEqual(kernel_state(world.kernel), kernel_state(kernel))
            self.assertEqual(state_of(world.memory), state_of(kernel.memory))
            self.assertEqual((world.history(), world.is_quiet()), ([], True))
            self.assertEqual([world.idle(processor) for processor in range(processors)], [False] * processors)

    def test_worlds_are_their_own(self):
        calls = [[MAP, STORE]]
        world, other = World(1, 2, 0, calls), World(1, 2, 0, calls)
        before = seen(other)
        world.settle(100)
        self.assertEqual(seen(other), before)

    def test_the_calls_that_are_passed(self):
        calls = [[MAP], [LOAD]]
        world = World(2, 2, 0, calls)
        calls[0].append(STORE)
        calls[1].clear()
        calls.append([])
        self.assertEqual((world.idle(0), world.idle(1)), (False, False))
        world.settle(100)
        self.assertEqual([row[2] for row in world.history()], [MAP, LOAD])
        self.assertEqual(calls, [[MAP, STORE], [], []])


class NotValidTest(unittest.TestCase):
    def check(self, *arguments):
        with self.assertRaises(NotValid):
            World(*arguments)

    def test_numbers(self):
        for processors in (-1, 0, 4, True, "2", None):
            self.check(processors, 2, 0, [[MAP]])
        for frames in (-1, 0, 1, 13, True, "2", None):
            self.check(1, frames, 0, [[MAP]])
        for blocks in (-1, 13, True, False, "2", None):
            self.check(1, 2, blocks, [[MAP]])
        self.check(0, 2, 0, [])
        self.check(4, 2, 0, [[], [], [], []])

    def test_a_list_too_many_or_too_few(self):
        for processors in (1, 2, 3):
            for lists in range(6):
                if lists != processors:
                    self.check(processors, 2, 0, [[MAP]] * lists)

    def test_what_is_no_call(self):
        for call in (
            None, 0, "begin", (), ["begin"], ("load", 0, 8, 0), ("load", 4, 0, 0), ("load", 0, 0, 2), ("load", 0, 0),
            ("load", True, 0, 0), ("store", 0, 0, 0, None), ("map", 0, 0, 9, "r", None), ("map", 0, 0, 1, "x", None),
            ("sync", 2), ("take",), ("begin", 0), ("read", 0),
        ):
            self.check(1, 2, 0, [[call]])
            self.check(1, 2, 0, [[MAP, call]])
            self.check(2, 2, 0, [[MAP], [LOAD, call, STORE]])

    def test_what_is_no_list_of_lists(self):
        for calls in (None, 0, "begin", {}, [None], [0], ["begin"], [{}], [MAP], MAP):
            self.check(1, 2, 0, calls)


class PlayTest(unittest.TestCase):
    def test_one_access_for_each_pick(self):
        world = new_world([MAP, LOAD], [LOAD])
        sizes = world.memory.sizes
        # The two accesses of the map; the load of processor 1 fails to find a word in between.
        for pick, request in (
            (0, ("swap", 0, 0, 1)), (1, LOAD), (1, ("walk", 0, 3)), (1, ("swap", 0, 0, 2)), (0, ("write", 0, 0)),
            (1, ("swap", 0, 0, 2)), (0, LOAD), (1, ("read", sizes.word(0, 3))),
            (1, ("write", sizes.frame_cell(0, 0), 0)),
        ):
            count = world.memory.count
            self.assertEqual(world.play([pick]), 1)
            self.assertEqual(requests_since(world.memory, count), [(pick, request)])

    def test_the_same_in_one_list(self):
        picks = [0, 1, 1, 1, 0, 1, 0, 1, 1, 1, 1, 1, 1, 0, 0, 0]
        world, other = new_world([MAP, LOAD], [LOAD]), new_world([MAP, LOAD], [LOAD])
        found = [world.play([pick]) for pick in picks]
        before = list(picks)
        self.assertEqual(other.play(picks), sum(found))
        self.assertEqual(picks, before)
        self.assertEqual(seen(world), seen(other))
        self.assertEqual(world.play([]), 0)

    def test_the_first_access_of_a_call_is_made_by_the_pick_behind_the_end_of_the_call_before_it(self):
        world = new_world([("begin",), ("end", 2), LOAD])
        for count, rows, request in (
            (1, 1, ("swap", 0, 0, 1)), (2, 1, ("write", 0, 0)), (3, 2, ("swap", 0, 0, 1)), (4, 2, ("write", 0, 0)),
            (5, 3, LOAD),
        ):
            self.assertEqual(world.play([0]), 1)
            self.assertEqual((world.memory.count, len(world.history())), (count, rows))
            self.assertEqual(world.memory.log()[-1], (count, 0, request))
            self.assertIs(world.idle(0), False)

    def test_picks_that_are_none(self):
        for processors in (1, 2, 3):
            world = new_world(*[[MAP, LOAD]] * processors)
            world.play([0])
            before = seen(world)
            for pick in (-1, -2, -3, -10 ** 9, 2 * processors, 2 * processors + 1, 7, 100, 10 ** 9):
                self.assertEqual(world.play([pick]), 0)
                self.assertEqual(seen(world), before)
            self.assertEqual(world.play([-1, 0, 99, 2 * processors]), 1)

    def test_picks_of_a_processor_that_has_ended_its_calls(self):
        world = new_world([("begin",)], [])
        self.assertEqual((world.idle(0), world.idle(1)), (False, True))
        self.assertEqual(world.play([1, 0, 1, 0, 1, 0, 0]), 2)
        before = seen(world)
        self.assertEqual(world.play([0, 1, 0]), 0)
        self.assertEqual(seen(world), before)
        self.assertEqual((world.idle(0), world.idle(1)), (True, True))

    def test_taking_a_letter(self):
        world = new_world([MAP, STORE, ("fork", 0)], [LOAD])
        n = 2
        before = seen(world)
        # There is none yet.
        self.assertEqual(world.play([n, n + 1]), 0)
        self.assertEqual(seen(world), before)
        while not world.memory.boxes[1].letters():
            self.assertEqual(world.play([0]), 1)
        self.assertEqual(world.memory.boxes[1].letters(), [(1, ((0, 3),))])
        self.assertEqual(world.play([n]), 0)
        count = world.memory.count
        self.assertEqual(world.play([n + 1]), 1)
        self.assertEqual(requests_since(world.memory, count), [(1, ("take",))])
        self.assertEqual((world.memory.boxes[1].letters(), world.memory.peek(2)), ([], 1))
        self.assertEqual(world.play([n + 1]), 0)

    def test_each_processor_takes_its_own_letters(self):
        for processors in (1, 2, 3):
            for processor in range(processors):
                world = new_world(*[[]] * processors)
                for to in range(processors):
                    world.memory.access(0, ("send", to, (5, ((0, 3),))))
                count = world.memory.count
                self.assertEqual(world.play([processors + processor]), 1)
                self.assertEqual(requests_since(world.memory, count), [(processor, ("take",))])
                boxes = [len(box.letters()) for box in world.memory.boxes]
                self.assertEqual(boxes, [0 if to == processor else 1 for to in range(processors)])

    def test_letters_are_taken_one_by_one(self):
        world = new_world([MAP], [], [])
        for ticket in (5, 6):
            world.memory.access(0, ("send", 2, (ticket, ((0, 3),))))
        self.assertEqual(world.play([5]), 1)
        self.assertEqual((world.memory.boxes[2].letters(), world.memory.peek(3)), ([(6, ((0, 3),))], 5))
        self.assertEqual(world.play([5, 5, 5]), 1)
        self.assertEqual((world.memory.boxes[2].letters(), world.memory.peek(3)), ([], 6))

    def test_an_idle_processor_takes_letters_too(self):
        world = new_world([MAP, STORE, ("fork", 0)], [])
        self.assertIs(world.idle(1), True)
        world.play([0] * 100)
        self.assertIs(world.idle(0), False)
        self.assertEqual(world.play([3]), 1)
        world.play([0] * 100)
        self.assertIs(world.idle(0), True)

    def test_one_processor(self):
        world = new_world([MAP, STORE])
        self.assertEqual(world.play([1, 0, 1, 0, 2]), 2)
        self.assertEqual(world.history(), [(0, 0, MAP, ("ok", None), 2, 1, 2)])


class HistoryTest(unittest.TestCase):
    def test_calls_that_ended_that_run_and_that_did_not_begin(self):
        world = new_world([MAP, STORE, LOAD], [LOAD, LOAD], [])
        self.assertEqual(world.history(), [])
        world.play([0])
        self.assertEqual(world.history(), [(0, 0, MAP, None, None, 1, None)])
        world.play([1, 0])
        self.assertEqual(world.history(), [(0, 0, MAP, ("ok", None), 3, 1, 3), (1, 0, LOAD, None, None, 2, None)])
        # The store makes the page ready: its cell is written by the last access but one.
        world.play([0] * 8)
        self.assertEqual(world.history()[:2], [
            (0, 0, MAP, ("ok", None), 3, 1, 3), (0, 1, STORE, None, 11, 4, None),
        ])
        world.play([0])
        self.assertEqual(world.history()[1], (0, 1, STORE, ("ok", None), 11, 4, 12))
        world.play([1] * 2)
        self.assertEqual(world.history()[2], (1, 0, LOAD, ("ok", 7), 14, 2, 14))
        world.play([1, 0])
        self.assertEqual(world.history()[2:], [
            (0, 2, LOAD, None, None, 16, None), (1, 0, LOAD, ("ok", 7), 14, 2, 14), (1, 1, LOAD, ("ok", 7), 15, 15, 15),
        ])

    def test_rows_are_ordered_by_processor_and_index(self):
        world = new_world([MAP] * 3, [LOAD] * 3, [("begin",)] * 3)
        numbers = Numbers(3)
        for _ in range(60):
            world.play([2 - numbers.below(3), numbers.below(6)])
            rows = [row[:2] for row in world.history()]
            self.assertEqual(rows, sorted(rows))
            for processor in range(3):
                indexes = [index for at, index in rows if at == processor]
                self.assertEqual(indexes, list(range(len(indexes))))
        self.assertEqual(len(world.history()), 9)
        calls = {0: MAP, 1: LOAD, 2: ("begin",)}
        self.assertEqual([row[2] for row in world.history()], [calls[row[0]] for row in world.history()])

    def test_takings_of_letters_are_not_counted(self):
        world = new_world([MAP, STORE, ("fork", 0)], [("begin",)])
        while not world.memory.boxes[1].letters():
            world.play([0])
        # The taking is no access of the begin, which begins behind it.
        self.assertEqual(world.play([3]), 1)
        first = world.memory.count + 1
        world.play([1])
        self.assertEqual(world.history()[3], (1, 0, ("begin",), None, None, first, None))
        # The fork ends; the begin takes a letter between its last accesses, and one behind the last.
        world.play([0] * 9)
        self.assertEqual(world.history()[2][3], ("ok", 1))
        for ticket in (8, 9):
            world.memory.access(0, ("send", 1, (ticket, ((0, 0),))))
        self.assertEqual(world.play([1, 3, 1]), 3)
        last = world.memory.count
        self.assertEqual(world.play([3, 3, 1]), 1)
        self.assertEqual(world.history()[3], (1, 0, ("begin",), ("ok", 2), last, first, last))

    def test_the_witness_of_a_call_that_has_not_ended(self):
        world = new_world([MAP, STORE, ("fork", 0)], [])
        while len(world.history()) < 3:
            world.play([0])
        rows = []
        while not world.idle(0):
            rows.append((world.history()[2], 1 in world.kernel.spaces, world.memory.log()[-1]))
            world.play([0, 3])
        for (_, _, _, answer, witness, first, last), child, _ in rows:
            self.assertEqual((answer, last, first), (None, None, 12))
            self.assertEqual(witness is not None, child)
        self.assertIsNone(rows[0][0][4])
        self.assertIsNotNone(rows[-1][0][4])
        self.assertEqual(len({row[0][4] for row in rows}), 2)
        _, _, _, answer, witness, _, last = world.history()[2]
        self.assertEqual((answer, witness, last), (("ok", 1), rows[-1][0][4], world.memory.count))
        self.assertEqual(world.memory.log()[witness - 1][1:], (0, ("read", 2)))

    def test_a_call_without_a_witness(self):
        world = new_world([MAP, ("store", 0, 0, 0, 1), ("store", 0, 1, 0, 1), LOAD], frames=2, blocks=0)
        world.settle(100)
        rows = world.history()
        self.assertEqual((rows[3][3], rows[3][4]), (("full", None), None))
        self.assertEqual(rows[3][6] - rows[3][5], 4)
        self.assertEqual(rows[3][6], world.memory.count)

    def test_histories_are_not_changed_later(self):
        world = new_world([MAP, STORE])
        histories = []
        while not world.idle(0):
            histories.append((world.history(), list(world.history())))
            world.play([0])
        for history, before in histories:
            self.assertEqual(history, before)
        world.history().clear()
        self.assertEqual(len(world.history()), 2)


class QuietTest(unittest.TestCase):
    def test_the_lock(self):
        world = new_world([MAP], [("begin",)])
        found = []
        for pick in (0, 1, 0, 1, 0, 1):
            world.play([pick])
            found.append(world.is_quiet())
            self.assertIs(world.is_quiet(), world.memory.peek(0) == 0)
        self.assertEqual(found, [False, False, True, False, False, True])


class SettleTest(unittest.TestCase):
    """Points 46 and 47."""

    def test_rounds(self):
        world = new_world([MAP, LOAD], [LOAD], [])
        for rounds in (0, -1):
            before = seen(world)
            self.assertIs(world.settle(rounds), False)
            self.assertEqual(seen(world), before)
        for _ in range(4):
            count = world.memory.count
            self.assertIs(world.settle(1), False)
            self.assertEqual([processor for processor, _ in requests_since(world.memory, count)], [0, 1])
        self.assertEqual(world.memory.count, 8)
        self.assertIs(world.settle(3), False)
        self.assertEqual(world.memory.count, 14)
        self.assertIs(world.settle(100), True)
        before = seen(world)
        for rounds in (0, 1, 100, -1):
            self.assertIs(world.settle(rounds), True)
            self.assertEqual(seen(world), before)

    def test_it_ends_with_the_last_call(self):
        world = new_world([("begin",)] * 3)
        self.assertIs(world.settle(5), False)
        self.assertEqual(world.memory.count, 5)
        self.assertIs(world.settle(1), True)
        self.assertEqual(world.memory.count, 6)
        self.assertIs(new_world([("begin",)] * 3).settle(6), True)

    def test_without_calls(self):
        world = new_world([], [], [])
        before = seen(world)
        self.assertIs(world.settle(0), True)
        self.assertIs(world.settle(10), True)
        self.assertEqual(seen(world), before)

    def test_all_letters_are_taken_ahead_of_the_access(self):
        world = new_world([MAP], [("begin",)], [])
        for to, ticket in ((1, 5), (2, 7), (1, 6), (0, 8)):
            world.memory.access(0, ("send", to, (ticket, ((0, 3),))))
        count = world.memory.count
        self.assertIs(world.settle(1), False)
        self.assertEqual(requests_since(world.memory, count), [
            (0, ("take",)), (0, ("swap", 0, 0, 1)), (1, ("take",)), (1, ("take",)), (1, ("swap", 0, 0, 2)),
            (2, ("take",)),
        ])

    def test_a_settled_world_is_quiet(self):
        world = new_world([MAP, STORE, ("fork", 0), ("evict",)], [STORE, ("end", 0)], [LOAD, ("sync", 0)])
        self.assertIs(world.settle(2800), True)
        self.assertIs(world.is_quiet(), True)
        self.assertEqual([box.letters() for box in world.memory.boxes], [[], [], []])
        self.assertEqual([world.idle(processor) for processor in range(3)], [True] * 3)
        self.assertEqual(len(world.history()), 8)

    def test_it_goes_on_from_what_was_played(self):
        world = new_world([MAP, STORE, ("fork", 0)], [STORE])
        world.play([0, 1, 0, 1, 1, 0, 0, 0, 1, 1])
        self.assertIs(world.settle(1600), True)
        self.assertEqual([row[3] for row in world.history()], [("ok", None), ("ok", None), ("ok", 1), ("ok", None)])

    def test_full_memories(self):
        # Each store needs a frame, and each frame but one must be evicted again and again.
        for processors in (1, 2, 3):
            for frames, blocks in ((2, 0), (2, 1), (2, 6), (3, 0), (3, 2)):
                rows = [[("store", 0, (page * 3 + at) % 8, 0, page) for page in range(16)] for at in range(processors)]
                rows[0] = [MAP, ("fork", 0), *rows[0], ("fork", 0), ("end", 1)]
                world = World(processors, frames, blocks, rows)
                self.assertIs(world.settle(400 * sum(map(len, rows))), True)
                self.assertEqual(len(world.history()), sum(map(len, rows)))
                self.assertIs(world.is_quiet(), True)

    def test_every_call_ends_within_400_rounds(self):
        for seed in range(60):
            numbers = Numbers(seed)
            processors = 1 + numbers.below(3)
            calls = new_calls(numbers, processors, 10)
            world = World(processors, 2 + numbers.below(11), numbers.below(13), calls)
            for _ in range(numbers.below(150)):
                world.play([numbers.below(2 * processors)])
            self.assertIs(world.settle(400 * sum(map(len, calls))), True)
            self.assertEqual([(row[0], row[1], row[2]) for row in world.history()], [
                (processor, index, call) for processor, row in enumerate(calls) for index, call in enumerate(row)
            ])


if __name__ == "__main__":
    unittest.main()
