"""Points 14 and 15: the machines and their stacks."""

import unittest

from frametally.machines import Stack
from tests.interface import check_class
from tests.play import new_memory, requests_since, state_of

LOCK = 0


class Script:
    """A machine that requests what stands in a list, and then its end."""

    def __init__(self, requests, value, told=None, name=None):
        self.left = list(requests)
        self.value = value
        # What the machine, and those that share the list, were told.
        self.told = [] if told is None else told
        self.name = name
        self.ended = False

    def request(self):
        if self.ended:
            raise AssertionError("a machine is used behind its end")
        if self.left:
            return self.left[0]
        return ("end", self.value)

    def accept(self, result):
        self.left.pop(0)
        self.told.append(result if self.name is None else (self.name, result))


def read(cell=LOCK):
    return ("read", cell)


def write(value):
    return ("write", LOCK, value)


def call(*requests, value=None, told=None, name=None):
    """The request that calls a machine with this script."""
    return ("call", Script(requests, value, told, name))


def nested(depth, requests):
    """A script of nested machines, each with the next one as all that it does."""
    machine = Script(requests, "deepest")
    for level in range(depth):
        machine = Script([("call", machine)], level)
    return machine


class StackCase(unittest.TestCase):
    def setUp(self):
        self.memory = new_memory(2, 2, 0)

    def step(self, stack, expected, processor=0):
        """Makes a step in which this access is made, or none."""
        before = state_of(self.memory)
        made = stack.step(self.memory, processor)
        self.assertIs(made, expected is not None)
        if expected is None:
            self.assertEqual(state_of(self.memory), before)
        else:
            self.assertEqual(requests_since(self.memory, before[0]), [(processor, expected)])

    def check_open(self, stack):
        self.assertIs(stack.ended(), False)
        self.assertIsNone(stack.value())

    def check_ended(self, stack, value):
        self.assertIs(stack.ended(), True)
        self.assertEqual(stack.value(), value)


class InterfaceTest(unittest.TestCase):
    def test_names_and_arguments(self):
        check_class(self, Stack, "frametally.machines", {
            "__init__": ["machine"],
            "step": ["memory", "processor"],
            "ended": [],
            "value": [],
        })


class OneMachineTest(StackCase):
    def test_one_that_ends_at_once(self):
        for value in (7, 0, "done", (1, 2), None, False):
            stack = Stack(Script([], value))
            # It is not settled yet.
            self.check_open(stack)
            self.step(stack, None)
            self.check_ended(stack, value)

    def test_one_that_makes_accesses(self):
        machine = Script([write(5), read(), ("swap", LOCK, 5, 6), ("swap", LOCK, 5, 7)], "end")
        stack = Stack(machine)
        self.check_open(stack)
        for count, request in enumerate([write(5), read(), ("swap", LOCK, 5, 6)], start=1):
            self.step(stack, request)
            self.check_open(stack)
            self.assertEqual(len(machine.told), count)
        self.step(stack, ("swap", LOCK, 5, 7))
        self.check_ended(stack, "end")
        self.assertEqual(machine.told, [(None, 1), (5, 2), (True, 3), (False, 4)])

    def test_the_stack_is_empty_directly_behind_the_last_access(self):
        stack = Stack(Script([read()], 9))
        self.step(stack, read())
        self.check_ended(stack, 9)

    def test_steps_with_an_empty_stack(self):
        for requests in ([], [read()]):
            stack = Stack(Script(requests, 9))
            stack.step(self.memory, 0)
            for _ in range(3):
                self.step(stack, None)
                self.check_ended(stack, 9)

    def test_the_access_is_made_by_the_processor(self):
        stack = Stack(Script([("take",)] * 3, None))
        self.memory.access(0, ("send", 1, (4, ((0, 0),))))
        for processor in (1, 0, 1):
            self.step(stack, ("take",), processor)
        self.assertEqual(self.memory.peek(self.memory.sizes.acknowledge(1)), 4)

    def test_the_numbers_are_those_of_the_memory(self):
        machine = Script([read(), read()], None)
        stack = Stack(machine)
        self.memory.access(1, write(3))
        self.step(stack, read())
        self.memory.access(1, write(4))
        self.memory.access(1, write(5))
        self.step(stack, read())
        self.assertEqual(machine.told, [(3, 2), (5, 5)])

    def test_two_stacks_in_turn(self):
        first, second = Script([write(1), read()], "first"), Script([write(2), read()], "second")
        stacks = [Stack(first), Stack(second)]
        for processor, request in ((0, write(1)), (1, write(2)), (0, read()), (1, read())):
            self.step(stacks[processor], request, processor)
        self.assertEqual(first.told, [(None, 1), (2, 3)])
        self.assertEqual(second.told, [(None, 2), (2, 4)])
        self.check_ended(stacks[0], "first")
        self.check_ended(stacks[1], "second")


class CallTest(StackCase):
    def play(self, machine, requests):
        """Plays a machine that makes just these accesses, and returns its stack."""
        stack = Stack(machine)
        for request in requests:
            self.check_open(stack)
            self.step(stack, request)
        return stack

    def test_a_call_between_accesses(self):
        machine = Script([write(1), call(write(2), read(), value="inner"), read()], "outer")
        stack = self.play(machine, [write(1), write(2), read(), read()])
        self.check_ended(stack, "outer")
        self.assertEqual(machine.told, [(None, 1), "inner", (2, 4)])

    def test_a_call_as_the_first_thing(self):
        machine = Script([call(write(2), value="inner"), read()], "outer")
        self.check_ended(self.play(machine, [write(2), read()]), "outer")
        self.assertEqual(machine.told, ["inner", (2, 2)])

    def test_a_call_as_the_last_thing(self):
        machine = Script([write(1), call(read(), value="inner")], "outer")
        self.check_ended(self.play(machine, [write(1), read()]), "outer")
        self.assertEqual(machine.told, [(None, 1), "inner"])

    def test_a_call_as_the_only_thing(self):
        machine = Script([call(read(), value="inner")], "outer")
        self.check_ended(self.play(machine, [read()]), "outer")
        self.assertEqual(machine.told, ["inner"])

    def test_calls_that_end_at_once(self):
        # They are done in the step of an access, or in a step that makes none.
        machine = Script([call(value="a"), call(value="b"), read(), call(value="c"), call(value=None)], "outer")
        self.check_ended(self.play(machine, [read()]), "outer")
        self.assertEqual(machine.told, ["a", "b", (0, 1), "c", None])
        machine = Script([call(value="a"), call(call(value="c"), value="b")], "outer")
        stack = Stack(machine)
        self.check_open(stack)
        self.step(stack, None)
        self.check_ended(stack, "outer")
        self.assertEqual(machine.told, ["a", "b"])

    def test_several_deep(self):
        for depth in range(6):
            self.memory = new_memory(2, 2, 0)
            machine = nested(depth, [write(1), read()])
            stack = self.play(machine, [write(1), read()])
            self.check_ended(stack, depth - 1 if depth else "deepest")
            if depth:
                self.assertEqual(machine.told, [depth - 2 if depth > 1 else "deepest"])

    def test_several_deep_without_an_access(self):
        stack = Stack(nested(5, []))
        self.step(stack, None)
        self.check_ended(stack, 4)

    def test_several_deep_between_accesses(self):
        told = []
        inner = call(read(), value=3, told=told, name="c")
        middle = call(write(2), inner, write(3), value=2, told=told, name="b")
        machine = Script([write(1), middle, read()], 1, told, "a")
        stack = self.play(machine, [write(1), write(2), read(), write(3), read()])
        self.check_ended(stack, 1)
        self.assertEqual(told, [
            ("a", (None, 1)), ("b", (None, 2)), ("c", (2, 3)), ("b", 3), ("b", (None, 4)), ("a", 2), ("a", (3, 5)),
        ])

    def test_the_value_is_that_of_the_first_machine(self):
        stack = Stack(Script([call(read(), value="inner"), read()], None))
        self.step(stack, read())
        self.check_open(stack)
        self.step(stack, read())
        self.check_ended(stack, None)

    def test_a_call_is_settled_in_the_step_of_the_access_before_it(self):
        told = []
        machine = Script([read(), call(value="inner", told=told), read()], "outer", told)
        stack = Stack(machine)
        self.step(stack, read())
        self.assertEqual(told, [(0, 1), "inner"])


class Looking:
    """A machine that looks at a buffer: it walks a page until there is an entry, and then loads."""

    def __init__(self, memory):
        self.memory = memory
        self.value = None

    def request(self):
        if self.value is not None:
            return ("end", self.value)
        if self.memory.buffers[0].frame_for(0, 1, False) is None:
            return ("walk", 0, 1)
        return ("load", 0, 1, 0)

    def accept(self, result):
        self.value = result[0] if result[0] == (0,) else None


class AskedAtTheStepTest(StackCase):
    def test_a_request_is_asked_at_the_step_in_which_it_is_done(self):
        self.memory.access(0, ("write", self.memory.sizes.word(0, 1), ("frame", 1, True)))
        stack = Stack(Looking(self.memory))
        self.step(stack, ("walk", 0, 1))
        # Between two steps the processor takes a letter, which drops the entry.
        self.memory.access(1, ("send", 0, (1, ((0, 1),))))
        self.memory.access(0, ("take",))
        self.step(stack, ("walk", 0, 1))
        self.step(stack, ("load", 0, 1, 0))
        self.check_ended(stack, (0,))


if __name__ == "__main__":
    unittest.main()
