"""Points 42 and 43: the plain machine."""

import copy
import unittest

from frametally.plain import after_call, answer_of, cell_of, new_plain
from tests.interface import check_function
from tests.play import Numbers
from tests.worlds import new_call

PRIVATE = {page: ("rw", None) for page in range(8)}
OK = ("ok", None)


def state(spaces, files=None):
    """A state with these spaces: a dict from each space to the tuple (pages, cells)."""
    return {"spaces": copy.deepcopy(spaces), "files": dict(files or {})}


def after_calls(plain, *calls):
    for call in calls:
        plain = after_call(plain, call)
    return plain


class PlainCase(unittest.TestCase):
    def check(self, plain, call, answer, after):
        """Checks the answer and the state behind a call, and that the state that is passed stays as it was."""
        before = copy.deepcopy(plain)
        self.assertEqual(answer_of(plain, call), answer)
        self.assertEqual(isinstance(answer_of(plain, call)[1], bool), isinstance(answer[1], bool))
        self.assertEqual(plain, before)
        found = after_call(plain, call)
        self.assertEqual(found, after)
        self.assertEqual(plain, before)
        # Nor does it change later, when calls are applied to what was returned.
        for later in (
            ("store", 0, 0, 0, 77), ("map", 0, 0, 8, "rw", None), ("fork", 0), ("end", 0), ("store", 1, 5, 0, 78),
        ):
            after_call(found, later)
            self.assertEqual((plain, found), (before, after))

    def check_nothing(self, plain, call, answer):
        self.check(plain, call, answer, copy.deepcopy(plain))


class InterfaceTest(unittest.TestCase):
    def test_names_and_arguments(self):
        check_function(self, new_plain, "frametally.plain", [])
        check_function(self, answer_of, "frametally.plain", ["plain", "call"])
        check_function(self, after_call, "frametally.plain", ["plain", "call"])
        check_function(self, cell_of, "frametally.plain", ["plain", "space", "page", "index"])

    def test_the_first_state(self):
        self.assertEqual(new_plain(), {"spaces": {0: ({}, {})}, "files": {}})
        self.assertIsInstance(new_plain()["spaces"][0], tuple)
        first = new_plain()
        first["spaces"][0][0][3] = ("r", None)
        first["files"][(0, 0, 0)] = 5
        self.assertEqual(new_plain(), {"spaces": {0: ({}, {})}, "files": {}})


class PrivateTest(PlainCase):
    def test_load(self):
        plain = state({0: (PRIVATE, {(3, 1): 7}), 2: ({3: ("r", None)}, {(3, 1): -8})})
        for call, value in (
            (("load", 0, 3, 1), 7), (("load", 0, 3, 0), 0), (("load", 0, 1, 1), 0), (("load", 2, 3, 1), -8),
            (("load", 2, 3, 0), 0),
        ):
            self.check_nothing(plain, call, ("ok", value))

    def test_store(self):
        plain = state({0: (PRIVATE, {(3, 1): 7}), 2: (PRIVATE, {})})
        self.check(plain, ("store", 0, 3, 1, 9), OK, state({0: (PRIVATE, {(3, 1): 9}), 2: (PRIVATE, {})}))
        self.check(plain, ("store", 0, 3, 0, 9), OK, state({0: (PRIVATE, {(3, 1): 7, (3, 0): 9}), 2: (PRIVATE, {})}))
        self.check(plain, ("store", 2, 3, 1, -9), OK, state({0: (PRIVATE, {(3, 1): 7}), 2: (PRIVATE, {(3, 1): -9})}))
        # A cell that was written is there, whatever was written.
        self.check(plain, ("store", 0, 3, 1, 0), OK, state({0: (PRIVATE, {(3, 1): 0}), 2: (PRIVATE, {})}))
        self.check(plain, ("store", 0, 4, 1, 0), OK, state({0: (PRIVATE, {(3, 1): 7, (4, 1): 0}), 2: (PRIVATE, {})}))

    def test_change(self):
        plain = state({0: (PRIVATE, {(3, 1): 7})})
        self.check(plain, ("change", 0, 3, 1, 7, 9), ("ok", True), state({0: (PRIVATE, {(3, 1): 9})}))
        self.check(plain, ("change", 0, 3, 1, 7, 7), ("ok", True), plain)
        self.check_nothing(plain, ("change", 0, 3, 1, 8, 9), ("ok", False))
        self.check_nothing(plain, ("change", 0, 3, 1, 9, 7), ("ok", False))
        # Cells that were not written are 0.
        self.check(plain, ("change", 0, 3, 0, 0, 9), ("ok", True), state({0: (PRIVATE, {(3, 1): 7, (3, 0): 9})}))
        self.check_nothing(plain, ("change", 0, 2, 1, 7, 9), ("ok", False))

    def test_refusals(self):
        plain = state({0: ({3: ("r", None), 4: ("rw", None), 5: ("r", (0, 0))}, {(3, 0): 1})}, {(0, 0, 0): 2})
        uses = (("load", 0), ("store", 0, 5), ("change", 0, 0, 5))
        for name, *rest in uses:
            for space in (1, 2, 3):
                self.check_nothing(plain, (name, space, 4, *rest), ("none", None))
            for page in (0, 1, 2, 6, 7):
                self.check_nothing(plain, (name, 0, page, *rest), ("fault", None))
        for name, *rest in uses[1:]:
            for page in (3, 5):
                self.check_nothing(plain, (name, 0, page, *rest), ("fault", None))
        self.check_nothing(plain, ("change", 0, 3, 0, 1, 1), ("fault", None))
        self.check_nothing(plain, ("change", 0, 3, 0, 2, 3), ("fault", None))


class SharedTest(PlainCase):
    def test_a_shared_page_is_one_of_the_file(self):
        spaces = {0: ({3: ("rw", (1, 2)), 4: ("rw", (1, 3))}, {}), 1: ({0: ("r", (1, 2))}, {})}
        plain = state(spaces, {(1, 2, 0): 6})
        self.check_nothing(plain, ("load", 0, 3, 0), ("ok", 6))
        self.check_nothing(plain, ("load", 1, 0, 0), ("ok", 6))
        self.check_nothing(plain, ("load", 0, 4, 0), ("ok", 0))
        self.check(plain, ("store", 0, 3, 1, 9), OK, state(spaces, {(1, 2, 0): 6, (1, 2, 1): 9}))
        self.check(plain, ("store", 0, 4, 0, 0), OK, state(spaces, {(1, 2, 0): 6, (1, 3, 0): 0}))
        self.check(plain, ("change", 0, 3, 0, 6, 7), ("ok", True), state(spaces, {(1, 2, 0): 7}))
        self.check_nothing(plain, ("change", 0, 3, 0, 5, 7), ("ok", False))

    def test_through_several_spaces(self):
        plain = after_calls(
            new_plain(), ("begin",), ("map", 0, 1, 3, "rw", (0, 1)), ("map", 1, 5, 2, "rw", (0, 2)),
            ("map", 1, 0, 2, "r", (0, 1)),
            ("store", 0, 2, 1, 7), ("store", 1, 6, 0, 8), ("store", 0, 1, 0, 9),
        )
        self.assertEqual(plain["files"], {(0, 2, 1): 7, (0, 3, 0): 8, (0, 1, 0): 9})
        for space, page, index, value in (
            (0, 2, 1, 7), (1, 5, 1, 7), (1, 1, 1, 7), (0, 3, 0, 8), (1, 6, 0, 8), (1, 0, 0, 9), (0, 1, 0, 9),
            (0, 1, 1, 0),
        ):
            self.assertEqual(answer_of(plain, ("load", space, page, index)), ("ok", value))
            self.assertEqual(cell_of(plain, space, page, index), value)

    def test_two_pages_of_one_space_that_show_one_page_of_a_file(self):
        plain = after_calls(
            new_plain(), ("map", 0, 1, 1, "rw", (0, 1)), ("map", 0, 6, 1, "rw", (0, 1)), ("store", 0, 1, 0, 5),
        )
        self.assertEqual(answer_of(plain, ("change", 0, 6, 0, 5, 6)), ("ok", True))
        self.assertEqual(cell_of(after_call(plain, ("change", 0, 6, 0, 5, 6)), 0, 1, 0), 6)

    def test_the_two_files_are_not_one(self):
        plain = after_calls(
            new_plain(), ("map", 0, 1, 1, "rw", (0, 1)), ("map", 0, 6, 1, "rw", (1, 1)), ("store", 0, 1, 0, 5),
        )
        self.assertEqual((cell_of(plain, 0, 1, 0), cell_of(plain, 0, 6, 0)), (5, 0))


class AreasTest(PlainCase):
    def test_map(self):
        plain = state({0: ({2: ("r", None)}, {(2, 0): 5}), 3: ({}, {})}, {(0, 0, 0): 6})
        files = {(0, 0, 0): 6}
        self.check(plain, ("map", 0, 3, 2, "rw", None), OK, state({
            0: ({2: ("r", None), 3: ("rw", None), 4: ("rw", None)}, {(2, 0): 5}), 3: ({}, {}),
        }, files))
        self.check(plain, ("map", 3, 1, 3, "r", (1, 1)), OK, state({
            0: ({2: ("r", None)}, {(2, 0): 5}), 3: ({1: ("r", (1, 1)), 2: ("r", (1, 2)), 3: ("r", (1, 3))}, {}),
        }, files))
        self.check(plain, ("map", 3, 0, 8, "rw", None), OK, state({
            0: ({2: ("r", None)}, {(2, 0): 5}), 3: (PRIVATE, {}),
        }, files))
        for space in (1, 2):
            self.check_nothing(plain, ("map", space, 2, 1, "r", None), ("none", None))
        for first, pages in ((2, 1), (1, 2), (0, 8), (2, 6)):
            self.check_nothing(plain, ("map", 0, first, pages, "rw", None), ("taken", None))
        self.check(plain, ("map", 0, 0, 2, "r", (0, 2)), OK, state({
            0: ({0: ("r", (0, 2)), 1: ("r", (0, 3)), 2: ("r", None)}, {(2, 0): 5}), 3: ({}, {}),
        }, files))

    def test_unmap(self):
        pages = {1: ("rw", None), 2: ("r", None), 3: ("rw", (0, 0)), 6: ("rw", None)}
        cells = {(1, 0): 4, (1, 1): 0, (2, 1): 5, (6, 0): 6}
        other = (PRIVATE, {(1, 0): 9})
        files = {(0, 0, 1): 8}
        plain = state({0: (pages, cells), 1: other}, files)
        for first, many, left, kept in (
            (1, 1, (2, 3, 6), [(2, 1), (6, 0)]), (0, 3, (3, 6), [(6, 0)]), (2, 5, (1,), [(1, 0), (1, 1)]),
            (3, 1, (1, 2, 6), list(cells)), (0, 8, (), []), (4, 2, (1, 2, 3, 6), list(cells)),
            (7, 1, (1, 2, 3, 6), list(cells)),
        ):
            self.check(plain, ("unmap", 0, first, many), OK, state({
                0: ({page: pages[page] for page in left}, {place: cells[place] for place in kept}), 1: other,
            }, files))
        for space in (2, 3):
            self.check_nothing(plain, ("unmap", space, 0, 8), ("none", None))

    def test_mapped_again(self):
        plain = after_calls(
            new_plain(), ("map", 0, 1, 2, "rw", None), ("map", 0, 5, 1, "rw", (1, 0)),
            ("store", 0, 1, 0, 7), ("store", 0, 2, 0, 8), ("store", 0, 5, 0, 9), ("unmap", 0, 1, 1), ("unmap", 0, 5, 1),
        )
        self.assertEqual(answer_of(plain, ("load", 0, 1, 0)), ("fault", None))
        plain = after_calls(plain, ("map", 0, 0, 2, "rw", None), ("map", 0, 4, 2, "r", (1, 0)))
        self.assertEqual([cell_of(plain, 0, page, 0) for page in (0, 1, 2, 4, 5)], [0, 0, 8, 9, 0])
        # What was private shows a file now, and the other way round.
        plain = after_calls(plain, ("unmap", 0, 0, 8), ("map", 0, 2, 1, "r", (1, 0)), ("map", 0, 4, 1, "r", None))
        self.assertEqual([cell_of(plain, 0, page, 0) for page in (2, 4)], [9, 0])

    def test_protect(self):
        pages = {1: ("rw", None), 2: ("r", None), 3: ("rw", (0, 0)), 6: ("rw", None)}
        cells = {(1, 0): 4, (2, 1): 5}
        plain = state({0: (pages, cells), 1: (PRIVATE, {})}, {(0, 0, 1): 8})
        for first, many, rights, changed in (
            (0, 8, "r", (1, 2, 3, 6)), (0, 8, "rw", (1, 2, 3, 6)), (2, 2, "r", (2, 3)), (2, 2, "rw", (2, 3)),
            (3, 3, "r", (3,)),
            (4, 2, "r", ()), (1, 1, "r", (1,)), (6, 2, "r", (6,)),
        ):
            new = {page: (rights if page in changed else pages[page][0], pages[page][1]) for page in pages}
            after = state({0: (new, cells), 1: (PRIVATE, {})}, {(0, 0, 1): 8})
            self.check(plain, ("protect", 0, first, many, rights), OK, after)
        for space in (2, 3):
            self.check_nothing(plain, ("protect", space, 0, 8, "r"), ("none", None))

    def test_what_was_written_stays_when_the_rights_change(self):
        plain = after_calls(new_plain(), ("map", 0, 1, 1, "rw", None), ("store", 0, 1, 0, 7), ("protect", 0, 0, 8, "r"))
        self.check_nothing(plain, ("store", 0, 1, 0, 8), ("fault", None))
        self.check_nothing(plain, ("load", 0, 1, 0), ("ok", 7))
        plain = after_calls(plain, ("protect", 0, 1, 1, "rw"), ("store", 0, 1, 1, 8))
        self.assertEqual((cell_of(plain, 0, 1, 0), cell_of(plain, 0, 1, 1)), (7, 8))


class SpacesTest(PlainCase):
    def test_begin(self):
        row = (PRIVATE, {(1, 0): 5})
        for exist in range(15):
            spaces = {space: row for space in range(4) if exist >> space & 1}
            new = min(space for space in range(4) if space not in spaces)
            self.check(state(spaces), ("begin",), ("ok", new), state({**spaces, new: ({}, {})}))
        self.check_nothing(state({space: row for space in range(4)}), ("begin",), ("full", None))

    def test_fork(self):
        pages = {1: ("rw", None), 2: ("r", None), 3: ("rw", (0, 0))}
        cells = {(1, 0): 4, (1, 1): 0, (2, 1): 5}
        files = {(0, 0, 1): 8}
        for spaces, space, child in (((0,), 0, 1), ((0, 1, 3), 3, 2), ((2,), 2, 0), ((0, 1, 2), 1, 3)):
            others = {other: (PRIVATE, {(7, 0): other}) for other in spaces if other != space}
            plain = state({**others, space: (pages, cells)}, files)
            after = state({**others, space: (pages, cells), child: (pages, cells)}, files)
            self.check(plain, ("fork", space), ("ok", child), after)
        full = state({space: (pages, cells) for space in range(4)}, files)
        for space in range(4):
            self.check_nothing(full, ("fork", space), ("full", None))
        for space in (1, 2, 3):
            self.check_nothing(state({0: (pages, cells)}), ("fork", space), ("none", None))

    def test_what_is_written_behind_a_fork(self):
        plain = after_calls(
            new_plain(), ("map", 0, 1, 2, "rw", None), ("map", 0, 5, 1, "rw", (1, 0)), ("store", 0, 1, 0, 7),
            ("fork", 0),
            ("store", 0, 1, 0, 8), ("store", 1, 1, 1, 9), ("store", 1, 5, 0, 10), ("unmap", 0, 2, 1),
            ("protect", 1, 1, 1, "r"),
        )
        self.assertEqual([cell_of(plain, 0, 1, index) for index in (0, 1)], [8, 0])
        self.assertEqual([cell_of(plain, 1, 1, index) for index in (0, 1)], [7, 9])
        self.assertEqual([cell_of(plain, space, 5, 0) for space in (0, 1)], [10, 10])
        self.assertEqual([answer_of(plain, ("load", space, 2, 0))[0] for space in (0, 1)], ["fault", "ok"])
        self.assertEqual([answer_of(plain, ("store", space, 1, 0, 1))[0] for space in (0, 1)], ["ok", "fault"])

    def test_end(self):
        row = (PRIVATE, {(1, 0): 5})
        files = {(0, 0, 1): 8}
        self.check(state({0: row, 1: row}, files), ("end", 0), OK, state({1: row}, files))
        self.check(state({0: row, 3: ({}, {})}, files), ("end", 3), OK, state({0: row}, files))
        self.check(state({0: row}, files), ("end", 0), OK, state({}, files))
        for space in (1, 2):
            self.check_nothing(state({0: row, 3: row}, files), ("end", space), ("none", None))

    def test_a_space_that_begins_again(self):
        plain = after_calls(new_plain(), ("map", 0, 1, 1, "rw", None), ("store", 0, 1, 0, 7), ("end", 0))
        self.check_nothing(plain, ("load", 0, 1, 0), ("none", None))
        plain = after_call(plain, ("begin",))
        self.check_nothing(plain, ("load", 0, 1, 0), ("fault", None))
        self.assertEqual(cell_of(after_call(plain, ("map", 0, 1, 1, "r", None)), 0, 1, 0), 0)

    def test_evict_and_sync(self):
        full = state({space: (PRIVATE, {(1, 0): 5}) for space in range(4)}, {(0, 0, 1): 8})
        for plain in (new_plain(), full, state({})):
            for call in (("evict",), ("sync", 0), ("sync", 1)):
                self.check_nothing(plain, call, OK)

    def test_only_begin_and_fork_are_full(self):
        plain = state({space: (PRIVATE, {}) for space in range(4)})
        for call in (("load", 0, 1, 0), ("protect", 3, 0, 8, "r"), ("unmap", 1, 0, 1), ("end", 2)):
            self.assertEqual(answer_of(plain, call)[0], "ok")
        self.assertEqual(answer_of(plain, ("map", 1, 0, 1, "r", None)), ("taken", None))


class Model:
    """Another plain machine: its pages are lists of cells, and those of the files are shared."""

    def __init__(self):
        self.files = {(file, page): [0, 0] for file in range(2) for page in range(4)}
        self.spaces = {0: {}}

    def new_space(self, pages):
        free = [space for space in range(4) if space not in self.spaces]
        if not free:
            return ("full", None)
        self.spaces[free[0]] = pages
        return ("ok", free[0])

    def use(self, name, space, page, index, *values):
        if page not in self.spaces[space]:
            return ("fault", None)
        rights, source, cells = self.spaces[space][page]
        if name != "load" and rights == "r":
            return ("fault", None)
        if name == "load":
            return ("ok", cells[index])
        if name == "change" and cells[index] != values[0]:
            return ("ok", False)
        cells[index] = values[-1]
        return ("ok", None if name == "store" else True)

    def do(self, call):
        """Applies a call, and returns its answer."""
        name, *rest = call
        if name in ("evict", "sync"):
            return OK
        if name == "begin":
            return self.new_space({})
        space = rest[0]
        if space not in self.spaces:
            return ("none", None)
        if name in ("load", "store", "change"):
            return self.use(*call)
        pages = self.spaces[space]
        if name == "end":
            del self.spaces[space]
        elif name == "fork":
            return self.new_space({
                page: (rights, source, list(cells) if source is None else cells)
                for page, (rights, source, cells) in pages.items()
            })
        else:
            return self.change_pages(name, pages, range(rest[1], rest[1] + rest[2]), rest[3:])
        return OK

    def change_pages(self, name, pages, numbers, rest):
        if name == "map" and any(page in pages for page in numbers):
            return ("taken", None)
        for at, page in enumerate(numbers):
            if name == "map":
                source = None if rest[1] is None else (rest[1][0], rest[1][1] + at)
                pages[page] = (rest[0], source, [0, 0] if source is None else self.files[source])
            elif name == "unmap":
                pages.pop(page, None)
            elif page in pages:
                pages[page] = (rest[0], *pages[page][1:])
        return OK


class ManyCallsTest(unittest.TestCase):
    """Long sequences of calls, compared with another plain machine."""

    def check(self, plain, model):
        self.assertEqual(sorted(plain["spaces"]), sorted(model.spaces))
        for space, pages in model.spaces.items():
            found = {page: (rights, source) for page, (rights, source, _) in pages.items()}
            self.assertEqual(plain["spaces"][space][0], found)
            for page, (_, _, cells) in pages.items():
                self.assertEqual([cell_of(plain, space, page, index) for index in (0, 1)], cells)
        files = {(*page, index): value for page, cells in model.files.items() for index, value in enumerate(cells)}
        self.assertEqual({place: plain["files"].get(place, 0) for place in files}, files)

    def test_many_calls(self):
        words = {}
        for seed in range(60):
            numbers = Numbers(seed)
            plain = new_plain()
            model = Model()
            for _ in range(80):
                call = new_call(numbers)
                answer = answer_of(plain, call)
                self.assertEqual(answer, model.do(call), call)
                plain = after_call(plain, call)
                self.check(plain, model)
                words.setdefault(call[0], {})[answer[0]] = True
        self.assertEqual({name: sorted(found) for name, found in words.items()}, {
            "load": ["fault", "none", "ok"], "store": ["fault", "none", "ok"], "change": ["fault", "none", "ok"],
            "map": ["none", "ok", "taken"], "unmap": ["none", "ok"], "protect": ["none", "ok"], "begin": ["full", "ok"],
            "fork": ["full", "none", "ok"], "end": ["none", "ok"], "evict": ["ok"], "sync": ["ok"],
        })


if __name__ == "__main__":
    unittest.main()
