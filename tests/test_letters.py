"""Points 10 and 11: the letters and the boxes."""

import unittest

from frametally import letters
from frametally.errors import NotValid, PageError
from frametally.letters import Box
from tests.interface import check_class

GOOD_LETTERS = (
    (1, ((0, 0),)),
    (1, ((3, 7),)),
    (2, ((0, 7), (3, 0))),
    (7, ((1, 2), (1, 2))),
    (10 ** 30, tuple((space, page) for space in range(4) for page in range(8))),
)

PAIRS = ((0, 1), (2, 3))

BAD_TICKETS = (0, -1, -(10 ** 30), True, False, None, "1", 1.0, (1,), [1])

BAD_PAIRS = (
    (), [], [(0, 1)], None, 0, 1, True, "", "ab", {}, {(0, 1): True}, {(0, 1)},
    # A pair that does not stand in a tuple of pairs.
    (0, 1),
)

BAD_PAIR = (
    (), (0,), (0, 1, 2), [0, 1], [], None, 0, True, "01", {0: 1},
    (True, 1), (False, 1), (1, True), (1, False), (None, 1), (1, None),
    ("0", 1), (0, "1"), (0.0, 1), (0, 1.0), ((0,), 1), (0, (1,)), ((0, 1),),
    (-1, 0), (4, 0), (10 ** 30, 0), (0, -1), (0, 8), (0, 10 ** 30),
)

NO_LETTERS = (
    None, 0, 1, True, False, "", "ab", [], {}, (), (1,), (PAIRS,),
    [1, PAIRS], (1, PAIRS, ()), (1, PAIRS, PAIRS), (1, 0, 1), (PAIRS, 1), {1: PAIRS},
)


def bad_letters():
    """All that point 10 keeps out."""
    found = list(NO_LETTERS)
    found.extend((ticket, PAIRS) for ticket in BAD_TICKETS)
    found.extend((1, pairs) for pairs in BAD_PAIRS)
    for pair in BAD_PAIR:
        found.extend([(1, (pair,)), (1, ((0, 1), pair)), (1, (pair, (0, 1)))])
    return found


class InterfaceTest(unittest.TestCase):
    def test_names_and_arguments(self):
        check_class(self, Box, "frametally.letters", {
            "__init__": [],
            "send": ["letter"],
            "take": [],
            "letters": [],
        })

    def test_the_numbers(self):
        self.assertEqual((letters.SPACES, letters.PAGES), (4, 8))

    def test_a_new_box_is_empty(self):
        self.assertEqual(Box().letters(), [])

    def test_each_processor_has_a_box_of_its_own(self):
        box = Box()
        other = Box()
        box.send((1, PAIRS))
        self.assertEqual(other.letters(), [])


class SendTest(unittest.TestCase):
    def test_letters_are_put_behind_those_that_are_there(self):
        box = Box()
        for count, letter in enumerate(GOOD_LETTERS, start=1):
            self.assertIsNone(box.send(letter))
            self.assertEqual(box.letters(), list(GOOD_LETTERS[:count]))

    def test_every_pair_that_exists(self):
        for space in range(4):
            for page in range(8):
                box = Box()
                box.send((1, ((space, page),)))
                self.assertEqual(box.letters(), [(1, ((space, page),))])

    def test_the_same_letter_twice(self):
        box = Box()
        box.send((1, PAIRS))
        box.send((1, PAIRS))
        self.assertEqual(box.letters(), [(1, PAIRS), (1, PAIRS)])

    def test_the_tickets_need_no_order(self):
        box = Box()
        for ticket in (3, 1, 2):
            box.send((ticket, PAIRS))
        self.assertEqual([letter[0] for letter in box.letters()], [3, 1, 2])

    def test_everything_else_is_refused_and_leaves_the_box_as_it_was(self):
        empty = Box()
        box = Box()
        for letter in GOOD_LETTERS:
            box.send(letter)
        for bad in bad_letters():
            with self.subTest(letter=bad):
                with self.assertRaises(NotValid):
                    box.send(bad)
                self.assertEqual(box.letters(), list(GOOD_LETTERS))
                with self.assertRaises(PageError):
                    empty.send(bad)
                self.assertEqual(empty.letters(), [])


class TakeTest(unittest.TestCase):
    def test_letters_come_in_their_order_and_then_none(self):
        box = Box()
        for letter in GOOD_LETTERS:
            box.send(letter)
        for count, letter in enumerate(GOOD_LETTERS, start=1):
            self.assertEqual(box.take(), letter)
            self.assertEqual(box.letters(), list(GOOD_LETTERS[count:]))
        for _ in range(3):
            self.assertIsNone(box.take())
            self.assertEqual(box.letters(), [])

    def test_an_empty_box(self):
        self.assertIsNone(Box().take())

    def test_sending_and_taking_in_turn(self):
        box = Box()
        box.send((1, PAIRS))
        box.send((2, PAIRS))
        self.assertEqual(box.take(), (1, PAIRS))
        box.send((3, PAIRS))
        self.assertEqual(box.take(), (2, PAIRS))
        self.assertEqual(box.take(), (3, PAIRS))
        self.assertIsNone(box.take())
        box.send((4, PAIRS))
        self.assertEqual(box.take(), (4, PAIRS))

    def test_a_refused_letter_is_never_taken(self):
        box = Box()
        box.send((1, PAIRS))
        with self.assertRaises(NotValid):
            box.send((0, PAIRS))
        box.send((2, PAIRS))
        self.assertEqual([box.take(), box.take(), box.take()], [(1, PAIRS), (2, PAIRS), None])


class ListsTest(unittest.TestCase):
    """Point 1: lists that are passed or returned."""

    def test_a_passed_list_is_not_changed(self):
        box = Box()
        pairs = [(0, 1), (2, 3)]
        for letter in (pairs, (1, pairs), (1, (pairs,)), [1, pairs]):
            with self.assertRaises(NotValid):
                box.send(letter)
            self.assertEqual(pairs, [(0, 1), (2, 3)])

    def test_a_returned_list_is_the_callers(self):
        box = Box()
        box.letters().append((1, PAIRS))
        self.assertEqual(box.letters(), [])
        box.send((1, PAIRS))
        box.letters().clear()
        self.assertEqual(box.letters(), [(1, PAIRS)])

    def test_a_returned_list_is_not_changed_later(self):
        box = Box()
        box.send((1, PAIRS))
        found = box.letters()
        box.send((2, PAIRS))
        self.assertEqual(found, [(1, PAIRS)])
        box.take()
        box.take()
        self.assertEqual(found, [(1, PAIRS)])


if __name__ == "__main__":
    unittest.main()
