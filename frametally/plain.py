"""The plain machine, which knows no frames, buffers, letters and locks: what the answers of the calls are."""

from frametally.letters import SPACES


def new_plain():
    """The first state."""
    return {"spaces": {0: ({}, {})}, "files": {}}


def copied(table):
    """A new dict with the same keys and values."""
    return {key: table[key] for key in table}


def copy_of(plain):
    """A new state that shares no dict with this one."""
    spaces = plain["spaces"]
    return {
        "spaces": {space: (copied(spaces[space][0]), copied(spaces[space][1])) for space in spaces},
        "files": copied(plain["files"]),
    }


def new_number(plain):
    """The least number of a space that does not exist, or None."""
    for space in range(SPACES):
        if space not in plain["spaces"]:
            return space
    return None


def cell_of(plain, space, page, index):
    """The value of a cell of a page that is in an area."""
    pages, cells = plain["spaces"][space]
    _, source = pages[page]
    if source is None:
        return cells.get((page, index), 0)
    file, file_page = source
    return plain["files"].get((file, file_page, index), 0)


def with_cell(plain, space, page, index, value):
    """The state in which the cell has the value."""
    state = copy_of(plain)
    pages, cells = state["spaces"][space]
    _, source = pages[page]
    if source is None:
        cells[(page, index)] = value
    else:
        file, file_page = source
        state["files"][(file, file_page, index)] = value
    return state


def with_space(plain, space, pages, cells):
    """The state in which the space exists with these pages and cells."""
    state = copy_of(plain)
    state["spaces"][space] = (copied(pages), copied(cells))
    return state


def without_space(plain, space):
    """The state in which the space does not exist."""
    state = copy_of(plain)
    state["spaces"].pop(space)
    return state


def page_sources(first, pages, source):
    """The list of the pages of an area, each with what it shows: None, or the file and the file page."""
    if source is None:
        return [(first + step, None) for step in range(pages)]
    file, file_page = source
    return [(first + step, (file, file_page + step)) for step in range(pages)]


def with_pages(plain, space, first, many, rights, source):
    """The state behind adding an area to the space."""
    pages, cells = plain["spaces"][space]
    added = {page: (rights, shown) for page, shown in page_sources(first, many, source)}
    return with_space(plain, space, {**pages, **added}, cells)


def without_pages(plain, space, first, many):
    """The state behind cutting pages out of the space, whose private cells are forgotten."""
    pages, cells = plain["spaces"][space]
    cut = list(range(first, first + many))
    left = {page: pages[page] for page in pages if page not in cut}
    kept = {place: cells[place] for place in cells if place[0] not in cut}
    return with_space(plain, space, left, kept)


def with_rights(plain, space, first, many, rights):
    """The state behind giving the pages of the range these rights."""
    pages, cells = plain["spaces"][space]
    given = {page: (rights, pages[page][1]) for page in range(first, first + many) if page in pages}
    return with_space(plain, space, {**pages, **given}, cells)


def answer_of_use(plain, call):
    """The answer of a load, a store or a change."""
    name, space, page, index, *values = call
    if space not in plain["spaces"]:
        return ("none", None)
    pages, _ = plain["spaces"][space]
    if page not in pages or (name != "load" and pages[page][0] == "r"):
        return ("fault", None)
    if name == "store":
        return ("ok", None)
    value = cell_of(plain, space, page, index)
    if name == "load":
        return ("ok", value)
    return ("ok", value == values[0])


def is_taken(plain, space, first, many):
    """True if a page of the range is in an area of the space."""
    pages, _ = plain["spaces"][space]
    return any([page in pages for page in range(first, first + many)])


def answer_of(plain, call):
    """The answer of a call."""
    name, *rest = call
    if name in ("load", "store", "change"):
        return answer_of_use(plain, call)
    if name in ("map", "unmap", "protect", "fork", "end") and rest[0] not in plain["spaces"]:
        return ("none", None)
    if name == "map" and is_taken(plain, rest[0], rest[1], rest[2]):
        return ("taken", None)
    if name in ("begin", "fork"):
        number = new_number(plain)
        if number is None:
            return ("full", None)
        return ("ok", number)
    return ("ok", None)


def after_call(plain, call):
    """The state behind a call."""
    word, value = answer_of(plain, call)
    if word != "ok":
        return copy_of(plain)
    match call:
        case ("store", space, page, index, new):
            return with_cell(plain, space, page, index, new)
        case ("change", space, page, index, _, new):
            if value:
                return with_cell(plain, space, page, index, new)
        case ("map", space, first, many, rights, source):
            return with_pages(plain, space, first, many, rights, source)
        case ("unmap", space, first, many):
            return without_pages(plain, space, first, many)
        case ("protect", space, first, many, rights):
            return with_rights(plain, space, first, many, rights)
        case ("begin",):
            return with_space(plain, value, {}, {})
        case ("fork", space):
            pages, cells = plain["spaces"][space]
            return with_space(plain, value, pages, cells)
        case ("end", space):
            return without_space(plain, space)
    return copy_of(plain)
