"""What the tests of several modules do with memories."""

from frametally.memory import Memory, Sizes

def new_memory(processors, frames, blocks):
    return Memory(Sizes(processors, frames, blocks))


def cells_of(memory):
    """The values of all cells."""
    return [memory.peek(cell) for cell in range(memory.sizes.cells())]


def state_of(memory):
    """All that can be seen of a memory."""
    return (
        memory.count,
        cells_of(memory),
        [buffer.entries() for buffer in memory.buffers],
        [box.letters() for box in memory.boxes],
        memory.log(),
    )


def requests_since(memory, count):
    """The pairs (processor, request) of the accesses behind the one with this number."""
    return [(processor, request) for number, processor, request in memory.log() if number > count]
