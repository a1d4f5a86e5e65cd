"""The checker, which looks whether a memory and its kernel fit together, and what they show."""

from frametally.areas import area_of, pages_in, source_of
from frametally.errors import Broken
from frametally.letters import PAGES, SPACES, is_pair
from frametally.memory import CELLS, FILE_PAGES, FILES
from frametally.plain import copied
from frametally.tables import block_of, frame_of, is_word, is_writable


def all_pairs():
    """The list of all pairs (space, page)."""
    return [(space, page) for space in range(SPACES) for page in range(PAGES)]


def all_files():
    """The list of the pages of files, each as the owner by which a frame caches it."""
    return [("file", file, page) for file in range(FILES) for page in range(FILE_PAGES)]


def word_of(memory, pair):
    """The table word of the pair."""
    space, page = pair
    return memory.peek(memory.sizes.word(space, page))


def area_at(kernel, pair):
    """The area with the page of the pair, or None."""
    space, page = pair
    if space not in kernel.spaces:
        return None
    return area_of(kernel.spaces[space], page)


def word_fits(memory, kernel, pair):
    """True if the table word is one that the page may have."""
    word = word_of(memory, pair)
    area = area_at(kernel, pair)
    if word is None:
        return True
    if area is None or not is_word(word, memory.sizes):
        return False
    _, _, rights, source = area
    if frame_of(word) is not None:
        return rights == "rw" or not is_writable(word)
    if source is None:
        return block_of(word) is not None
    return word == ("file", *source_of(area, pair[1]))


def words_fit(memory, kernel):
    """True if each table word is one that its page may have."""
    return all([word_fits(memory, kernel, pair) for pair in all_pairs()])


def is_led_to(memory, kernel, pair):
    """True if the page is an owner just where its table word leads."""
    word = word_of(memory, pair)
    return kernel.frames.place_of(pair) == frame_of(word) and kernel.blocks.place_of(pair) == block_of(word)


def shares_well(memory, kernel, pair):
    """True if the word leads to no frame, or to one that caches what the page shows."""
    frame = frame_of(word_of(memory, pair))
    if frame is None:
        return True
    source = source_of(area_at(kernel, pair), pair[1])
    if source is None:
        return kernel.is_private(frame)
    file, page = source
    return kernel.cached(file, page) == frame


def is_written_alone(memory, kernel, frame):
    """True if the frame is not private, or has one owner only, or no writable word."""
    owners = kernel.frames.owners(frame)
    if len(owners) < 2 or not kernel.is_private(frame):
        return True
    return not any([is_writable(word_of(memory, owner)) for owner in owners])


def all_owners(owners, many):
    """The list of all owners of so many frames or blocks."""
    return [owner for number in range(many) for owner in owners.owners(number)]


def are_owners(kernel):
    """True if all owners are pages, but that frames may cache pages of files."""
    files = all_files()
    of_frames = [owner for owner in all_owners(kernel.frames, kernel.sizes.frames) if owner not in files]
    of_blocks = all_owners(kernel.blocks, kernel.sizes.blocks)
    return all([is_pair(owner) for owner in [*of_frames, *of_blocks]])


def owners_fit(memory, kernel):
    """True if the owners are those to whose frames and blocks the table words lead."""
    pairs = all_pairs()
    if not are_owners(kernel) or not all([is_led_to(memory, kernel, pair) for pair in pairs]):
        return False
    frames = list(range(kernel.sizes.frames))
    if not all([shares_well(memory, kernel, pair) for pair in pairs]):
        return False
    return all([is_written_alone(memory, kernel, frame) for frame in frames])


def hands_are_empty(kernel):
    """True if no frame and no block is in the hands."""
    return len(kernel.frames.in_hands()) == 0 and len(kernel.blocks.in_hands()) == 0


def entry_fits(memory, entry):
    """True if the table word leads to the frame of the entry, for writing if the entry is writable."""
    space, page, frame, writable = entry
    word = word_of(memory, (space, page))
    return frame_of(word) == frame and (is_writable(word) or not writable)


def entries_fit(memory):
    """True if the entries of all buffers say what the table words say."""
    return all([entry_fits(memory, entry) for buffer in memory.buffers for entry in buffer.entries()])


def boxes_are_empty(memory):
    """True if no letter is under way."""
    return all([len(box.letters()) == 0 for box in memory.boxes])


def first_fault(memory, kernel):
    """The word of the first fault, or an empty string."""
    if not words_fit(memory, kernel):
        return "word"
    if not owners_fit(memory, kernel):
        return "owner"
    if not hands_are_empty(kernel):
        return "hands"
    if not entries_fit(memory):
        return "entry"
    if not boxes_are_empty(memory):
        return "letter"
    return ""


def values_at(memory, word):
    """The values of the cells of a private page with this table word."""
    if block_of(word) is not None:
        return memory.peek(memory.sizes.swap_block(block_of(word)))
    return values_in(memory, frame_of(word))


def values_in(memory, frame):
    """The values of the cells of the frame; zeros if there is no frame."""
    if frame is None:
        return (0,) * CELLS
    return tuple([memory.peek(memory.sizes.frame_cell(frame, index)) for index in range(CELLS)])


def file_values(memory, kernel, file, page):
    """The values of the cells of the page of the file."""
    frame = kernel.cached(file, page)
    if frame is None:
        return memory.peek(memory.sizes.file_block(file, page))
    return values_in(memory, frame)


def shown_space(memory, kernel, space):
    """The pages and the private cells of the space, as the plain machine has them."""
    areas = kernel.spaces[space]
    pages = {}
    cells = {}
    for page in pages_in(areas, 0, PAGES):
        area = area_of(areas, page)
        source = source_of(area, page)
        pages[page] = (area[2], source)
        if source is None:
            for index, value in enumerate(values_at(memory, word_of(memory, (space, page)))):
                cells[(page, index)] = value
    return (pages, cells)


def shown(memory, kernel):
    """The plain state that the memory shows."""
    if first_fault(memory, kernel) != "":
        raise Broken()
    files = {}
    for _, file, page in all_files():
        for index, value in enumerate(file_values(memory, kernel, file, page)):
            files[(file, page, index)] = value
    spaces = {space: shown_space(memory, kernel, space) for space in kernel.spaces}
    return without_zeros({"spaces": spaces, "files": files})


def not_zero(cells):
    """The cells whose value is not 0."""
    return {place: value for place, value in cells.items() if value != 0}


def without_zeros(plain):
    """The same plain state without the cells whose value is 0."""
    spaces = plain["spaces"]
    return {
        "spaces": {space: (copied(spaces[space][0]), not_zero(spaces[space][1])) for space in spaces},
        "files": not_zero(plain["files"]),
    }
