"""What the tests of several modules do with memories and machines."""

from frametally.kernel import Kernel
from frametally.machines import Stack
from frametally.memory import Memory, Sizes

# More accesses than any machine of these tests makes.
MANY = 200


def new_memory(processors, frames, blocks):
    return Memory(Sizes(processors, frames, blocks))


def new_kernel(processors, frames, blocks):
    return Kernel(new_memory(processors, frames, blocks))


def cells_of(memory):
    """The values of all cells."""
    return [memory.peek(cell) for cell in range(memory.sizes.cells())]


def state_of(memory):
    """All that can be seen of a memory."""
    return (
        memory.count,
        cells_of(memory),
        [buffer.entries() for buffer in memory.buffers],
        [box.letters() for box in memory.boxes],
        memory.log(),
    )


def owners_of(owners, many):
    """All that can be seen of an object of class Owners for so many."""
    return ([owners.owners(number) for number in range(many)], owners.free(), owners.in_hands())


def kernel_state(kernel):
    """All that can be seen of a kernel without its memory."""
    return (
        {space: list(areas) for space, areas in kernel.spaces.items()},
        owners_of(kernel.frames, kernel.sizes.frames),
        owners_of(kernel.blocks, kernel.sizes.blocks),
        kernel.hand.points_to(),
        kernel.ticket,
    )


def requests_since(memory, count):
    """The pairs (processor, request) of the accesses behind the one with this number."""
    return [(processor, request) for number, processor, request in memory.log() if number > count]


def take_letters(memory):
    """Lets every processor take all letters of its box."""
    for processor, box in enumerate(memory.boxes):
        while box.letters():
            memory.access(processor, ("take",))


def run(memory, processor, machine, early=True):
    """Runs a machine to its end; the letters are taken behind each of its accesses if `early` is True.

    Returns the value of its end and the list of the requests that it made.
    """
    stack = Stack(machine)
    made = []
    for _ in range(MANY):
        before = memory.count
        if not stack.step(memory, processor):
            break
        made.extend(request for _, request in requests_since(memory, before))
        if stack.ended():
            break
        if early:
            take_letters(memory)
    if not stack.ended():
        raise AssertionError("the machine does not end")
    return (stack.value(), made)
