"""The areas, which say which virtual pages of a space may be used."""

from frametally.letters import PAGES, is_number_below, is_tuple_of, is_whole
from frametally.memory import FILE_PAGES, FILES


def is_range_below(first, pages, many):
    """True if there is at least one page, and all pages from the first one on are below this number."""
    return is_number_below(first, many) and is_whole(pages) and 1 <= pages <= many - first


def is_source(value, pages):
    """True if the value is a source for so many pages."""
    if value is None:
        return True
    if not is_tuple_of(value, 2):
        return False
    file, file_page = value
    return is_number_below(file, FILES) and is_range_below(file_page, pages, FILE_PAGES)


def is_area(value):
    """True if the value is an area with pages, files and file pages that exist."""
    if not is_tuple_of(value, 4):
        return False
    first, pages, rights, source = value
    if not is_range_below(first, pages, PAGES) or rights not in ("r", "rw"):
        return False
    return is_source(source, pages)


def area_of(areas, page):
    """The area with the page, or None."""
    for area in areas:
        first, pages, _, _ = area
        if first <= page < first + pages:
            return area
    return None


def source_of(area, page):
    """The file and the file page that the page of the area shows; None if the area is private."""
    first, _, _, source = area
    if source is None:
        return None
    file, file_page = source
    return (file, file_page + page - first)


def part_of(area, begin, end):
    """The area's part from the page begin to the one before end: a list of one area, or an empty one."""
    first, pages, rights, _ = area
    low = max(first, begin)
    high = min(first + pages, end)
    if low >= high:
        return []
    return [(low, high - low, rights, source_of(area, low))]


def parts_of(area, first, pages):
    """The area's parts before, within and behind the range, each a list as part_of gives it."""
    end = first + pages
    within = part_of(area, first, end)
    if len(within) == 0:
        return ([area], [], [])
    return (part_of(area, area[0], first), within, part_of(area, end, area[0] + area[1]))


def with_area(areas, area):
    """The list with one more area, or None if a page of it is in another one."""
    first, pages, _, _ = area
    if len(pages_in(areas, first, pages)) > 0:
        return None
    return sorted([*areas, area], key=lambda row: row[0])


def without_pages(areas, first, pages):
    """The list of the areas behind cutting the pages out."""
    left = []
    for area in areas:
        before, _, behind = parts_of(area, first, pages)
        left.extend([*before, *behind])
    return left


def with_rights(areas, first, pages, rights):
    """The list of the areas behind giving the pages of the range these rights."""
    changed = []
    for area in areas:
        before, within, behind = parts_of(area, first, pages)
        given = [(low, many, rights, source) for low, many, _, source in within]
        changed.extend([*before, *given, *behind])
    return changed


def pages_in(areas, first, pages):
    """The list of the pages of the range that are in an area, ascending."""
    return [page for page in range(first, first + pages) if area_of(areas, page) is not None]
