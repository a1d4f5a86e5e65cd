"""What the tests of several modules do with memories and machines."""

from frametally.kernel import Kernel
from frametally.machines import Stack
from frametally.memory import Memory, Sizes

# More accesses than any machine of these tests makes.
MANY = 200


class Numbers:
    """The same numbers at each run, without much order."""

    def __init__(self, seed):
        self.state = seed

    def below(self, many):
        self.state = (self.state * 6364136223846793005 + 1442695040888963407) % 2 ** 64
        return (self.state >> 33) % many

    def one_of(self, rows):
        return rows[self.below(len(rows))]


def new_memory(processors, frames, blocks):
    return Memory(Sizes(processors, frames, blocks))


def new_kernel(processors, frames, blocks):
    return Kernel(new_memory(processors, frames, blocks))


def cells_of(memory):
    """The values of all cells."""
    return [memory.peek(cell) for cell in range(memory.sizes.cells())]


def state_of(memory):
    """All that can be seen of a memory."""
    return (
        memory.count,
        cells_of(memory),
        [buffer.entries() for buffer in memory.buffers],
        [box.letters() for box in memory.boxes],
        memory.log(),
    )


def owners_of(owners, many):
    """All that can be seen of an object of class Owners for so many."""
    return ([owners.owners(number) for number in range(many)], owners.free(), owners.in_hands())


def kernel_state(kernel):
    """All that can be seen of a kernel without its memory."""
    return (
        {space: list(areas) for space, areas in kernel.spaces.items()},
        owners_of(kernel.frames, kernel.sizes.frames),
        owners_of(kernel.blocks, kernel.sizes.blocks),
        kernel.hand.points_to(),
        kernel.ticket,
    )


def fill(kernel, frame, owners, values, writable=False):
    """Gives a free frame these owners and values, and the table words that go with them."""
    kernel.frames.hold(frame)
    for index, value in enumerate(values):
        kernel.memory.access(0, ("write", kernel.sizes.frame_cell(frame, index), value))
    for owner in owners:
        kernel.frames.add(frame, owner)
        if owner[0] != "file":
            kernel.memory.access(0, ("write", kernel.word_cell(owner), ("frame", frame, writable)))


def fill_block(kernel, block, owners, values):
    """Gives a free swap block these owners and values, and the table words that go with them."""
    kernel.blocks.hold(block)
    kernel.memory.access(0, ("write", kernel.sizes.swap_block(block), values))
    for owner in owners:
        kernel.blocks.add(block, owner)
        kernel.memory.access(0, ("write", kernel.word_cell(owner), ("swap", block)))


def word(kernel, pair):
    """The table word of the pair."""
    return kernel.memory.peek(kernel.word_cell(pair))


def words(kernel):
    """A dict from each pair whose table word is not None to the word."""
    found = {(space, page): word(kernel, (space, page)) for space in range(4) for page in range(8)}
    return {pair: value for pair, value in found.items() if value is not None}


def frame_values(kernel, frame):
    return tuple(kernel.memory.peek(kernel.sizes.frame_cell(frame, index)) for index in (0, 1))


def swap_value(kernel, block):
    return kernel.memory.peek(kernel.sizes.swap_block(block))


def file_value(kernel, file, page):
    return kernel.memory.peek(kernel.sizes.file_block(file, page))


def reads(kernel, frame):
    """The accesses that read the cells of a frame."""
    return [("read", kernel.sizes.frame_cell(frame, index)) for index in (0, 1)]


def fillings(kernel, frame, values):
    """The accesses that write the cells of a frame."""
    return [("write", kernel.sizes.frame_cell(frame, index), value) for index, value in enumerate(values)]


def writes(kernel, pairs, value):
    """The accesses that give the table words of the pairs one value."""
    return [("write", kernel.word_cell(pair), value) for pair in pairs]


def invalidation(kernel, processor, ticket, pairs):
    """The accesses of an invalidation whose letters are taken early."""
    others = [other for other in range(kernel.sizes.processors) if other != processor]
    sends = [("send", other, (ticket, tuple(pairs))) for other in others]
    return sends + [("read", kernel.sizes.acknowledge(other)) for other in others]


def requests_since(memory, count):
    """The pairs (processor, request) of the accesses behind the one with this number."""
    return [(processor, request) for number, processor, request in memory.log() if number > count]


def take_letters(memory):
    """Lets every processor take all letters of its box."""
    for processor, box in enumerate(memory.boxes):
        while box.letters():
            memory.access(processor, ("take",))


def run_carefully(case, kernel, processor, machine):
    """Runs a machine and those that it calls by point 14 alone, and checks that asking for a request changes nothing.

    Returns the value of its end.
    """
    memory = kernel.memory
    machines = [machine]
    for _ in range(10 * MANY):
        before = (state_of(memory), kernel_state(kernel))
        for _ in range(3):
            request = machines[-1].request()
            case.assertEqual((state_of(memory), kernel_state(kernel)), before)
        if request[0] == "call":
            machines.append(request[1])
        elif request[0] == "end":
            machines.pop()
            if not machines:
                return request[1]
            machines[-1].accept(request[1])
        else:
            take_letters(memory)
            outcome = memory.access(processor, machines[-1].request())
            machines[-1].accept(outcome)
    raise AssertionError("the machine does not end")


def run(memory, processor, machine, early=True):
    """Runs a machine to its end; the letters are taken behind each of its accesses if `early` is True.

    Returns the value of its end and the list of the requests that it made.
    """
    stack = Stack(machine)
    made = []
    for _ in range(MANY):
        before = memory.count
        if not stack.step(memory, processor):
            break
        made.extend(request for _, request in requests_since(memory, before))
        if stack.ended():
            break
        if early:
            take_letters(memory)
    if not stack.ended():
        raise AssertionError("the machine does not end")
    return (stack.value(), made)
