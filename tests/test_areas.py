"""Points 19 and 20: the areas."""

import itertools
import unittest

from frametally.areas import area_of, is_area, pages_in, source_of, with_area, with_rights, without_pages
from tests.interface import check_function

# Areas that touch each other (2 and 4), with a gap behind (6), private and of files.
AREAS = [(1, 1, "r", None), (2, 2, "rw", (0, 2)), (4, 2, "rw", None), (7, 1, "r", (1, 0))]


class InterfaceTest(unittest.TestCase):
    def test_names_and_arguments(self):
        for function, arguments in (
            (is_area, ["value"]),
            (area_of, ["areas", "page"]),
            (source_of, ["area", "page"]),
            (with_area, ["areas", "area"]),
            (without_pages, ["areas", "first", "pages"]),
            (with_rights, ["areas", "first", "pages", "rights"]),
            (pages_in, ["areas", "first", "pages"]),
        ):
            check_function(self, function, "frametally.areas", arguments)

    def test_the_example(self):
        found = with_rights([(1, 4, "rw", (0, 0))], 2, 2, "r")
        self.assertEqual(found, [(1, 1, "rw", (0, 0)), (2, 2, "r", (0, 1)), (4, 1, "rw", (0, 3))])


class IsAreaTest(unittest.TestCase):
    def check(self, value, expected):
        with self.subTest(value=value):
            self.assertIs(is_area(value), expected)

    def test_pages(self):
        for first in range(-2, 10):
            for pages in range(-2, 11):
                self.check((first, pages, "rw", None), first >= 0 and pages >= 1 and first + pages <= 8)

    def test_file_pages(self):
        for file in range(-1, 4):
            for file_page in range(-2, 6):
                for pages in range(1, 7):
                    good = file in (0, 1) and file_page >= 0 and file_page + pages <= 4
                    self.check((1, pages, "r", (file, file_page)), good)
                    self.check((1, pages, "rw", (file, file_page)), good)

    def test_rights(self):
        for rights in ("r", "rw"):
            self.check((0, 8, rights, None), True)
            self.check((0, 4, rights, (1, 0)), True)
        for rights in ("", "w", "wr", "R", "rwx", "r ", None, 0, 1, True, False, ("r",), ["r"], ("r", "w"), {}):
            self.check((0, 1, rights, None), False)
            self.check((0, 1, rights, (0, 0)), False)

    def test_sources(self):
        for source in (
            0, 1, True, False, "", "0", (), (0,), (0, 0, 0), [0, 0], [], {}, (None, 0), (0, None),
            (True, 0), (False, 0),
            (0, True), (0, False), ("0", 0), (0, "0"), ((0, 0),), (0, (0,)),
        ):
            self.check((0, 1, "rw", source), False)

    def test_numbers_that_are_none(self):
        for part in (True, False, None, "1", (1,), [1], ""):
            self.check((part, 1, "r", None), False)
            self.check((1, part, "r", None), False)
            self.check((part, 1, "r", (0, 0)), False)
            self.check((1, part, "r", (0, 0)), False)

    def test_other_values(self):
        for value in (
            None, 0, 1, True, False, "", "area", "0110", [], {}, (), (0,), (0, 1), (0, 1, "r"), (0, 1, "r", None, None),
            (0, 1, "r", None, 0), [0, 1, "r", None], (0, 1, None, "r"), ("r", 0, 1, None), ((0, 1, "r", None),),
            [(0, 1, "r", None)], (0, 1, "r", 0, 0),
        ):
            self.check(value, False)


class LookTest(unittest.TestCase):
    def test_area_of(self):
        found = [area_of(AREAS, page) for page in range(-1, 10)]
        a, b, c, d = AREAS
        self.assertEqual(found, [None, None, a, b, b, c, c, None, d, None, None])
        self.assertIsNone(area_of([], 0))

    def test_source_of(self):
        for page in (2, 3, 4, 5):
            self.assertIsNone(source_of((2, 4, "rw", None), page))
            self.assertEqual(source_of((2, 4, "r", (1, 0)), page), (1, page - 2))
        self.assertEqual(source_of((0, 1, "r", (0, 0)), 0), (0, 0))
        self.assertEqual(source_of((7, 1, "r", (0, 3)), 7), (0, 3))
        self.assertEqual([source_of((5, 3, "r", (0, 1)), page) for page in (5, 6, 7)], [(0, 1), (0, 2), (0, 3)])

    def test_pages_in(self):
        self.assertEqual(pages_in(AREAS, 0, 8), [1, 2, 3, 4, 5, 7])
        self.assertEqual(pages_in(AREAS, 3, 3), [3, 4, 5])
        self.assertEqual(pages_in(AREAS, 5, 3), [5, 7])
        self.assertEqual(pages_in(AREAS, 1, 1), [1])
        self.assertEqual(pages_in(AREAS, 0, 1), [])
        self.assertEqual(pages_in(AREAS, 6, 1), [])
        self.assertEqual(pages_in(AREAS, 7, 1), [7])
        self.assertEqual(pages_in([], 0, 8), [])


class WithAreaTest(unittest.TestCase):
    def test_where_it_fits(self):
        for areas, area, at in (
            ([], (0, 8, "rw", None), 0),
            (AREAS, (0, 1, "rw", None), 0),
            (AREAS, (6, 1, "rw", (1, 3)), 3),
            ([(0, 2, "r", None)], (2, 6, "r", None), 1),
            ([(2, 6, "r", (0, 0))], (0, 2, "rw", (0, 2)), 0),
            ([(0, 2, "r", None), (5, 3, "r", None)], (2, 3, "rw", None), 1),
            ([(3, 1, "r", None)], (1, 1, "rw", None), 0),
        ):
            self.assertEqual(with_area(areas, area), areas[:at] + [area] + areas[at:])

    def test_areas_are_not_joined(self):
        self.assertEqual(with_area([(0, 2, "rw", (0, 0))], (2, 2, "rw", (0, 2))),
                         [(0, 2, "rw", (0, 0)), (2, 2, "rw", (0, 2))])
        self.assertEqual(with_area([(4, 1, "r", None)], (3, 1, "r", None)), [(3, 1, "r", None), (4, 1, "r", None)])

    def test_where_a_page_is_in_another_one(self):
        areas = [(2, 3, "rw", None)]
        for first in range(8):
            for pages in range(1, 9 - first):
                area = (first, pages, "r", None)
                found = with_area(areas, area)
                if first + pages <= 2 or first >= 5:
                    self.assertEqual(found, sorted(areas + [area]))
                else:
                    self.assertIsNone(found)

    def test_one_page_of_many_is_in_another_one(self):
        self.assertIsNone(with_area(AREAS, (0, 2, "rw", None)))
        self.assertIsNone(with_area(AREAS, (6, 2, "rw", None)))
        self.assertIsNone(with_area(AREAS, (5, 2, "rw", None)))
        self.assertIsNone(with_area(AREAS, AREAS[0]))


class CutTest(unittest.TestCase):
    """The ranges that cut an area of pages 2 to 5, and several areas."""

    AREA = (2, 4, "rw", (1, 0))

    # The range, the parts beside it, and the parts within it with the rights "r".
    CASES = (
        ((2, 1), [(3, 3, "rw", (1, 1))], [(2, 1, "r", (1, 0))]),
        ((1, 3), [(4, 2, "rw", (1, 2))], [(2, 2, "r", (1, 0))]),
        ((5, 1), [(2, 3, "rw", (1, 0))], [(5, 1, "r", (1, 3))]),
        ((4, 4), [(2, 2, "rw", (1, 0))], [(4, 2, "r", (1, 2))]),
        ((3, 1), [(2, 1, "rw", (1, 0)), (4, 2, "rw", (1, 2))], [(3, 1, "r", (1, 1))]),
        ((3, 2), [(2, 1, "rw", (1, 0)), (5, 1, "rw", (1, 3))], [(3, 2, "r", (1, 1))]),
        ((2, 4), [], [(2, 4, "r", (1, 0))]),
        ((0, 8), [], [(2, 4, "r", (1, 0))]),
        ((1, 6), [], [(2, 4, "r", (1, 0))]),
        ((0, 2), [AREA], []),
        ((6, 2), [AREA], []),
        ((7, 1), [AREA], []),
        ((0, 1), [AREA], []),
    )

    def test_one_area(self):
        for (first, pages), beside, within in self.CASES:
            with self.subTest(first=first, pages=pages):
                self.assertEqual(without_pages([self.AREA], first, pages), beside)
                self.assertEqual(with_rights([self.AREA], first, pages, "r"), sorted(beside + within))

    def test_private_areas_stay_private(self):
        self.assertEqual(without_pages([(2, 4, "r", None)], 3, 2), [(2, 1, "r", None), (5, 1, "r", None)])
        self.assertEqual(with_rights([(2, 4, "r", None)], 3, 2, "rw"),
                         [(2, 1, "r", None), (3, 2, "rw", None), (5, 1, "r", None)])

    def test_several_areas(self):
        a, b, c, d = AREAS
        self.assertEqual(without_pages(AREAS, 3, 2), [a, (2, 1, "rw", (0, 2)), (5, 1, "rw", None), d])
        self.assertEqual(without_pages(AREAS, 1, 4), [(5, 1, "rw", None), d])
        self.assertEqual(without_pages(AREAS, 5, 3), [a, b, (4, 1, "rw", None)])
        self.assertEqual(without_pages(AREAS, 0, 8), [])
        self.assertEqual(with_rights(AREAS, 3, 2, "r"), [
            a, (2, 1, "rw", (0, 2)), (3, 1, "r", (0, 3)), (4, 1, "r", None), (5, 1, "rw", None), d,
        ])
        self.assertEqual(with_rights(AREAS, 0, 8, "rw"), [
            (1, 1, "rw", None), (2, 2, "rw", (0, 2)), (4, 2, "rw", None), (7, 1, "rw", (1, 0)),
        ])
        self.assertEqual(with_rights(AREAS, 5, 3, "r"), [a, b, (4, 1, "rw", None), (5, 1, "r", None), d])

    def test_no_area(self):
        for first, pages in ((0, 1), (6, 1)):
            self.assertEqual(without_pages(AREAS, first, pages), AREAS)
            self.assertEqual(with_rights(AREAS, first, pages, "rw"), AREAS)
        self.assertEqual(without_pages([], 0, 8), [])
        self.assertEqual(with_rights([], 0, 8, "r"), [])

    def test_the_same_rights_cut_too(self):
        self.assertEqual(with_rights([self.AREA], 3, 1, "rw"),
                         [(2, 1, "rw", (1, 0)), (3, 1, "rw", (1, 1)), (4, 2, "rw", (1, 2))])

    def test_areas_are_never_joined(self):
        areas = with_rights(with_rights([(0, 4, "rw", (0, 0))], 1, 2, "r"), 1, 2, "rw")
        expected = [(0, 1, "rw", (0, 0)), (1, 2, "rw", (0, 1)), (3, 1, "rw", (0, 3))]
        self.assertEqual(areas, expected)
        self.assertEqual(with_rights(areas, 0, 8, "rw"), expected)
        self.assertEqual(without_pages(areas, 7, 1), expected)

    def test_sources_go_on_counting_behind_a_second_cut(self):
        areas = without_pages([(3, 4, "rw", (1, 0))], 3, 1)
        self.assertEqual(areas, [(4, 3, "rw", (1, 1))])
        self.assertEqual(without_pages(areas, 5, 1), [(4, 1, "rw", (1, 1)), (6, 1, "rw", (1, 3))])

    def test_a_page_that_was_cut_out_can_be_in_an_area_again(self):
        areas = without_pages([self.AREA], 3, 1)
        self.assertEqual(with_area(areas, (3, 1, "r", None)),
                         [(2, 1, "rw", (1, 0)), (3, 1, "r", None), (4, 2, "rw", (1, 2))])


def by_page(areas):
    """A dict from each page in an area to its rights and its source."""
    return {first + k: (rights, source and (source[0], source[1] + k))
            for first, pages, rights, source in areas for k in range(pages)}


class EveryRangeTest(unittest.TestCase):
    LISTS = (
        [], AREAS, [(0, 8, "rw", None)], [(0, 4, "rw", (0, 0)), (4, 4, "r", (1, 0))], [(3, 2, "r", (1, 2))],
        [(0, 3, "r", None), (5, 3, "rw", (0, 1))], [(page, 1, "rw", None) for page in range(8)],
    )

    def ranges(self):
        return [(first, pages) for first in range(8) for pages in range(1, 9 - first)]

    def cuts(self, areas, first, pages):
        """The pages at which an area begins behind cutting at both ends of the range."""
        begins = {row[0] for row in areas}
        return begins | ({first, first + pages} & set(by_page(areas)))

    def test_pages_and_lists(self):
        for areas, (first, pages) in itertools.product(self.LISTS, self.ranges()):
            shown = by_page(areas)
            within = range(first, first + pages)
            self.assertEqual(pages_in(areas, first, pages), [page for page in within if page in shown])
            left = without_pages(areas, first, pages)
            self.assertEqual(by_page(left), {page: shown[page] for page in shown if page not in within})
            self.assertEqual([row[0] for row in left],
                             sorted(page for page in self.cuts(areas, first, pages) if page not in within))
            for rights in ("r", "rw"):
                changed = with_rights(areas, first, pages, rights)
                self.assertEqual(by_page(changed), {
                    page: (rights if page in within else shown[page][0], shown[page][1]) for page in shown
                })
                self.assertEqual([row[0] for row in changed], sorted(self.cuts(areas, first, pages)))
                self.assertTrue(all(is_area(area) for area in left + changed))

    def test_what_is_passed_is_not_changed_and_not_returned(self):
        for areas, (first, pages) in itertools.product(self.LISTS, self.ranges()):
            passed = list(areas)
            found = [without_pages(passed, first, pages), with_rights(passed, first, pages, "r")]
            found.append(pages_in(passed, first, pages))
            found.append(with_area(passed, (first, pages, "r", None)) or [])
            self.assertEqual(passed, areas)
            for rows in found:
                rows.append(None)
                self.assertEqual(passed, areas)


if __name__ == "__main__":
    unittest.main()
