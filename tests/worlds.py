"""Calls of all kinds without much order, for the tests of whole programs."""

KINDS = (
    "load", "load", "load", "load", "store", "store", "store", "store", "change", "change", "map", "map", "unmap",
    "protect",
    "begin", "fork", "fork", "end", "evict", "sync",
)


def new_area(numbers):
    """The parts of an area: its first page, its pages, its rights and its source."""
    first = numbers.below(8)
    pages = 1 + numbers.below(min(8 - first, 4))
    rights = numbers.one_of(("r", "rw", "rw", "rw"))
    source = None
    if numbers.below(5) < 2:
        source = (numbers.below(2), numbers.below(5 - pages))
    return (first, pages, rights, source)


def new_call(numbers):
    """A call; small numbers, so that calls meet."""
    kind = numbers.one_of(KINDS)
    space = numbers.one_of((0, 0, 0, 1, 1, 2, 3))
    cell = (space, numbers.below(8), numbers.below(2))
    first, pages, rights, source = new_area(numbers)
    return {
        "load": ("load", *cell),
        "store": ("store", *cell, numbers.below(3)),
        "change": ("change", *cell, numbers.below(3), numbers.below(3)),
        "map": ("map", space, first, pages, rights, source),
        "unmap": ("unmap", space, first, pages),
        "protect": ("protect", space, first, pages, rights),
        "begin": ("begin",),
        "fork": ("fork", space),
        "end": ("end", space),
        "evict": ("evict",),
        "sync": ("sync", numbers.below(2)),
    }[kind]


def new_calls(numbers, processors, most):
    """A list of calls for each processor; the first ones make pages that can be used."""
    calls = [[new_call(numbers) for _ in range(numbers.below(most + 1))] for _ in range(processors)]
    calls[0] = [("map", 0, 0, 5, "rw", None), ("map", 0, 5, 3, "rw", (1, 0)), *calls[0]]
    return calls
