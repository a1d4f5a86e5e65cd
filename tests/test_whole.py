"""The whole program: point 1, and points 13, 22, 25, 28, 35, 36, 38, 40, 41 and 47 in worlds of 1 to 3 processors."""

import unittest

from frametally.checks import first_fault, shown, without_zeros
from frametally.judge import first_fault as first_wrong_row
from frametally.judge import plain_at
from frametally.tables import frame_of
from frametally.world import World
from tests.play import Numbers, frame_values, words
from tests.worlds import new_calls


def new_world(seed, most=12):
    """A world and the numbers by which it goes on."""
    numbers = Numbers(seed)
    processors = 1 + seed % 3
    # Few frames and blocks, so that pages are evicted and answers are "full"; sometimes many.
    frames = 2 + numbers.below(numbers.one_of((2, 3, 11)))
    blocks = numbers.below(numbers.one_of((1, 3, 13)))
    return (World(processors, frames, blocks, new_calls(numbers, processors, most)), numbers)


def picks(numbers, processors):
    """Some picks; one of the processors is preferred, and letters are taken late or soon."""
    preferred = numbers.below(processors)
    letters = numbers.below(4)
    found = []
    for _ in range(1 + numbers.below(12)):
        found.append(preferred if numbers.below(3) else numbers.below(processors))
        if numbers.below(4) < letters:
            found.append(processors + numbers.below(processors))
    return found


def no_letters(world):
    return all(not box.letters() for box in world.memory.boxes)


class ManyWorldsTest(unittest.TestCase):
    def check_quiet(self, world):
        """While nobody has the lock, everything fits together and the memory shows the plain state."""
        self.assertEqual(first_fault(world.memory, world.kernel), "")
        plain = without_zeros(plain_at(world.history(), world.memory.count))
        self.assertEqual(shown(world.memory, world.kernel), plain)

    def play(self, world, numbers, looks):
        """Plays a world for a while. Returns how often it was quiet."""
        quiet = 0
        for _ in range(looks):
            world.play(picks(numbers, world.memory.sizes.processors))
            if world.is_quiet():
                # Point 25: nobody gives the lock back ahead of the acknowledgements.
                self.assertTrue(no_letters(world))
                self.check_quiet(world)
                quiet += 1
            self.assertTrue(all(len(box.letters()) < 2 for box in world.memory.boxes))
        return quiet

    def test_the_answers_are_those_of_the_plain_machine(self):
        found = {}
        quiet = 0
        for seed in range(150):
            world, numbers = new_world(seed)
            quiet += self.play(world, numbers, 40)
            self.assertEqual(first_wrong_row(world.history()), ("", -1), seed)
            self.assertIs(world.settle(400 * 50), True, seed)
            self.assertEqual(first_wrong_row(world.history()), ("", -1), seed)
            self.check_quiet(world)
            for _, _, call, answer, _, _, _ in world.history():
                found.setdefault(call[0], {})[answer[0]] = True
        # The worlds are of use only if all answers occur in them.
        self.assertEqual({name: sorted(answers) for name, answers in found.items()}, {
            "load": ["fault", "full", "none", "ok"], "store": ["fault", "full", "none", "ok"],
            "change": ["fault", "full", "none", "ok"], "map": ["none", "ok", "taken"], "unmap": ["none", "ok"],
            "protect": ["none", "ok"], "begin": ["full", "ok"], "fork": ["full", "none", "ok"], "end": ["none", "ok"],
            "evict": ["ok"], "sync": ["ok"],
        })
        self.assertGreater(quiet, 1000)

    def test_plays_are_the_same_each_time(self):
        for seed in range(12):
            world, numbers = new_world(seed)
            other, _ = new_world(seed)
            for _ in range(30):
                some = picks(numbers, world.memory.sizes.processors)
                self.assertEqual(world.play(some), other.play(some))
            self.assertEqual(world.memory.log(), other.memory.log())
            self.assertEqual(world.history(), other.history())


class EachAccessTest(unittest.TestCase):
    """What holds behind each single access, also while the lock is held and letters are under way."""

    def check_frames(self, world):
        """No free frame and no free block can be led to (point 1); nor can a frame in the hands."""
        kernel = world.kernel
        nowhere = kernel.frames.free() + kernel.frames.in_hands()
        table = words(kernel)
        entries = [entry for buffer in world.memory.buffers for entry in buffer.entries()]
        for word in table.values():
            self.assertNotIn(frame_of(word), nowhere)
            if word[0] == "swap":
                self.assertNotIn(word[1], kernel.blocks.free())
        for _, _, frame, _ in entries:
            self.assertNotIn(frame, nowhere)
        # Point 36.
        for frame in range(kernel.sizes.frames):
            if kernel.is_private(frame) and len(kernel.frames.owners(frame)) > 1:
                self.assertNotIn(("frame", frame, True), list(table.values()))
                self.assertNotIn((frame, True), [entry[2:] for entry in entries])

    def check_files(self, world):
        """Point 22."""
        kernel = world.kernel
        table = words(kernel)
        for space, areas in kernel.spaces.items():
            for first, pages, _, source in areas:
                for at in range(pages):
                    word = table.get((space, first + at))
                    if source is not None and frame_of(word) is not None:
                        self.assertEqual(frame_of(word), kernel.cached(source[0], source[1] + at))
                    elif source is not None and word is not None:
                        self.assertEqual(word, ("file", source[0], source[1] + at))

    def check_request(self, world, holder):
        """Point 13: table words are changed, and letters sent, by the holder of the lock alone."""
        _, processor, request = world.memory.log()[-1]
        sizes = world.memory.sizes
        if request[0] in ("write", "send") or (request[0] == "read" and request[1] >= sizes.word(0, 0)):
            self.assertEqual(holder, processor + 1)
        if request[0] == "swap" and request[1] == sizes.lock():
            self.assertEqual(request[2:], (0, processor + 1))

    def test_each_access(self):
        for seed in range(45):
            world, numbers = new_world(1000 + seed, 8)
            for _ in range(25):
                for pick in picks(numbers, world.memory.sizes.processors):
                    holder = world.memory.peek(0)
                    if world.play([pick]):
                        self.check_frames(world)
                        self.check_files(world)
                        self.check_request(world, holder)
                        self.assertTrue(all(len(box.letters()) < 2 for box in world.memory.boxes))

    def test_the_states_that_are_read_change_only_where_a_witness_is(self):
        # Between two quiet moments without a witness the memory shows the same.
        for seed in range(30):
            world, numbers = new_world(2000 + seed, 8)
            last = shown(world.memory, world.kernel)
            count = 0
            for _ in range(250):
                world.play([numbers.below(2 * world.memory.sizes.processors)])
                if world.is_quiet():
                    found = shown(world.memory, world.kernel)
                    witnesses = [row[4] for row in world.history() if row[4] is not None]
                    if not any(witness > count for witness in witnesses):
                        self.assertEqual(found, last)
                    last = found
                    count = world.memory.count


class TwoCallsTest(unittest.TestCase):
    """Two calls at once, of which one stops anywhere and goes on when the other one has made some accesses."""

    SETUP = [
        ("map", 0, 0, 4, "rw", None), ("map", 0, 4, 2, "rw", (0, 0)), ("store", 0, 1, 0, 5), ("store", 0, 4, 0, 6),
        ("fork", 0), ("store", 0, 2, 0, 7),
    ]
    FIRST = (
        ("fork", 0), ("end", 0), ("unmap", 0, 0, 8), ("protect", 0, 1, 4, "r"), ("evict",), ("store", 0, 1, 0, 9),
        ("store", 1, 1, 1, 9), ("sync", 0), ("begin",),
    )
    SECOND = (
        [("load", 0, 1, 0), ("store", 0, 2, 0, 1)], [("store", 0, 1, 0, 2), ("load", 1, 1, 0)],
        [("change", 0, 4, 0, 6, 8), ("load", 1, 4, 0)], [("store", 0, 2, 1, 3), ("load", 0, 2, 0)],
        [("load", 1, 1, 0), ("fork", 1), ("load", 2, 1, 0)],
    )

    def check(self, first, second, old_entry, before, between):
        """`before` and `between` are numbers of accesses: of the first call, and then of the second ones."""
        world = World(2, 4 if old_entry else 3, 2, [[*self.SETUP, first], second])
        while len([row for row in world.history() if row[6] is not None]) < len(self.SETUP):
            # The second processor has not begun, and takes its letters.
            world.play([0, 3])
        if old_entry:
            _, space, page, *_ = second[0]
            world.memory.access(1, ("walk", space, page))
        world.play([0] * before + [1] * between + [0] * 2 + [3] + [1] * 2)
        self.assertIs(world.settle(4000), True)
        self.assertEqual(first_wrong_row(world.history()), ("", -1), (first, second, old_entry, before, between))
        self.assertEqual(first_fault(world.memory, world.kernel), "")
        plain = without_zeros(plain_at(world.history(), world.memory.count))
        self.assertEqual(shown(world.memory, world.kernel), plain)

    def test_two_calls(self):
        for first in self.FIRST:
            for second in self.SECOND:
                for before in range(22):
                    for old_entry in (False, True):
                        self.check(first, second, old_entry, before, 1 if old_entry else 4)


class ForkTest(unittest.TestCase):
    """Point 41: the child begins with the cells of the moment of the witness."""

    def test_stores_around_a_fork(self):
        for between in range(1, 30):
            # Processor 1 stores 1, 2, 3, .. into page 1, while processor 0 forks.
            stores = [("store", 0, 1, 0, value) for value in range(1, 40)]
            world = World(2, 4, 2, [[("map", 0, 0, 4, "rw", None), ("store", 0, 1, 0, 0), ("fork", 0)], stores])
            while len(world.history()) < 3:
                world.play([0])
            numbers = Numbers(between)
            while not world.idle(0):
                world.play([1] * numbers.below(4) + [0] * numbers.below(3))
                if numbers.below(4) == 0:
                    world.play([3])
            _, _, _, answer, witness, _, _ = world.history()[2]
            self.assertEqual(answer, ("ok", 1))
            stored = [row[2][4] for row in world.history()[3:] if row[4] is not None and row[4] < witness]
            frame = frame_of(words(world.kernel)[(1, 1)])
            self.assertEqual(frame_values(world.kernel, frame), (max(stored, default=0), 0))


if __name__ == "__main__":
    unittest.main()
