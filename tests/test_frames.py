"""Points 16, 17 and 18: the owners of frames and blocks, and the hand."""

import unittest

from frametally.errors import NotValid
from frametally.frames import Hand, Owners
from tests.interface import check_class
from tests.play import owners_of

FILE_PAGE = ("file", 1, 3)


def taken(many, hands=(), owners=()):
    """So many frames, of which some are in the hands, and some have owners: pairs (number, owner)."""
    made = Owners(many)
    for number in {number for number, _ in owners}:
        made.hold(number)
    for number, owner in owners:
        made.add(number, owner)
    for number in hands:
        made.hold(number)
    return made


class InterfaceTest(unittest.TestCase):
    def test_names_and_arguments(self):
        check_class(self, Owners, "frametally.frames", {
            "__init__": ["many"],
            "take": [],
            "give_back": ["number"],
            "add": ["number", "owner"],
            "remove": ["number", "owner"],
            "hold": ["number"],
            "owners": ["number"],
            "place_of": ["owner"],
            "free": [],
            "in_hands": [],
        })
        check_class(self, Hand, "frametally.frames", {
            "__init__": ["many"],
            "victim": ["owners", "passed_over"],
            "points_to": [],
        })

    def test_the_example(self):
        made = Owners(3)
        self.assertEqual(made.take(), 0)
        self.assertIsNone(made.add(0, (1, 5)))
        self.assertEqual(made.take(), 1)
        self.assertEqual(made.free(), [2])
        self.assertEqual(made.in_hands(), [1])


class OwnersCase(unittest.TestCase):
    def check(self, made, owners, free, hands):
        self.assertEqual(owners_of(made, len(owners)), (owners, free, hands))

    def check_refused(self, made, many, function, *arguments):
        before = owners_of(made, many)
        with self.assertRaises(NotValid):
            function(*arguments)
        self.assertEqual(owners_of(made, many), before)


class TakeTest(OwnersCase):
    def test_all_are_free_at_first(self):
        for many in range(13):
            self.check(Owners(many), [[] for _ in range(many)], list(range(many)), [])

    def test_take_gives_the_least_free_one_or_none(self):
        for many in (0, 1, 2, 12):
            made = Owners(many)
            for number in range(many):
                self.assertEqual(made.take(), number)
                self.check(made, [[]] * many, list(range(number + 1, many)), list(range(number + 1)))
            for _ in range(2):
                self.assertIsNone(made.take())
                self.check(made, [[]] * many, [], list(range(many)))

    def test_take_passes_over_what_has_owners_or_is_in_the_hands(self):
        made = taken(5, hands=[0, 3], owners=[(1, (0, 1))])
        self.assertEqual(made.take(), 2)
        self.assertEqual(made.take(), 4)
        self.assertIsNone(made.take())
        self.check(made, [[], [(0, 1)], [], [], []], [], [0, 2, 3, 4])

    def test_what_was_freed_is_taken_again(self):
        made = taken(4, hands=[0, 2], owners=[(1, (0, 1)), (3, (0, 2))])
        made.remove(3, (0, 2))
        made.give_back(2)
        self.assertEqual(made.take(), 2)
        self.assertEqual(made.take(), 3)
        made.remove(1, (0, 1))
        self.assertEqual(made.take(), 1)

    def test_give_back(self):
        made = taken(3, hands=[0, 1, 2])
        self.assertIsNone(made.give_back(1))
        self.check(made, [[]] * 3, [1], [0, 2])
        self.assertIsNone(made.give_back(0))
        self.check(made, [[]] * 3, [0, 1], [2])

    def test_give_back_of_what_is_not_in_the_hands(self):
        made = taken(3, hands=[0], owners=[(1, (0, 1))])
        self.check_refused(made, 3, made.give_back, 1)
        self.check_refused(made, 3, made.give_back, 2)
        made.give_back(0)
        self.check_refused(made, 3, made.give_back, 0)
        made.take()
        made.add(0, (2, 2))
        self.check_refused(made, 3, made.give_back, 0)

    def test_hold(self):
        made = taken(4, owners=[(1, (0, 1))])
        self.assertIsNone(made.hold(2))
        self.check(made, [[], [(0, 1)], [], []], [0, 3], [2])
        made.remove(1, (0, 1))
        made.hold(1)
        self.check(made, [[]] * 4, [0, 3], [1, 2])
        self.assertEqual([made.take(), made.take(), made.take()], [0, 3, None])

    def test_hold_of_what_is_not_free(self):
        made = taken(3, hands=[0], owners=[(1, (0, 1))])
        self.check_refused(made, 3, made.hold, 0)
        self.check_refused(made, 3, made.hold, 1)
        made.hold(2)
        self.check_refused(made, 3, made.hold, 2)

    def test_what_was_held_may_be_given_back_or_get_an_owner(self):
        made = taken(2, hands=[0, 1])
        made.give_back(1)
        made.add(0, (0, 1))
        self.check(made, [[(0, 1)], []], [1], [])


class OwnerTest(OwnersCase):
    def test_the_first_owner_takes_it_out_of_the_hands(self):
        made = taken(3, hands=[0, 1])
        self.assertIsNone(made.add(1, (0, 1)))
        self.check(made, [[], [(0, 1)], []], [2], [0])

    def test_owners_stand_in_the_order_in_which_they_were_added(self):
        made = taken(3, hands=[1])
        expected = []
        for owner in ((3, 7), (0, 0), FILE_PAGE, (1, 0), (0, 1), ("file", 0, 0)):
            made.add(1, owner)
            expected.append(owner)
            self.check(made, [[], expected, []], [0, 2], [])
        made.remove(1, (0, 0))
        made.add(1, (0, 0))
        expected.remove((0, 0))
        self.check(made, [[], expected + [(0, 0)], []], [0, 2], [])

    def test_add_to_a_free_one(self):
        made = taken(3, hands=[0], owners=[(1, (0, 1))])
        self.check_refused(made, 3, made.add, 2, (0, 2))
        made.give_back(0)
        self.check_refused(made, 3, made.add, 0, (0, 2))
        made.remove(1, (0, 1))
        self.check_refused(made, 3, made.add, 1, (0, 1))

    def test_an_owner_is_at_one_at_most(self):
        made = taken(3, hands=[0], owners=[(1, (0, 1)), (2, (0, 2)), (2, FILE_PAGE)])
        for number in range(3):
            for owner in ((0, 1), (0, 2), FILE_PAGE):
                self.check_refused(made, 3, made.add, number, owner)
        # Others of the same space, page or file are others.
        for owner in ((0, 3), (1, 1), (2, 0), ("file", 1, 2), ("file", 0, 3)):
            made.add(0, owner)
        made.remove(2, (0, 2))
        made.add(0, (0, 2))
        self.assertEqual(made.place_of((0, 2)), 0)

    def test_remove(self):
        made = taken(2, owners=[(0, (0, 1)), (0, (0, 2)), (0, FILE_PAGE)])
        self.assertIsNone(made.remove(0, (0, 2)))
        self.check(made, [[(0, 1), FILE_PAGE], []], [1], [])
        made.remove(0, (0, 1))
        self.check(made, [[FILE_PAGE], []], [1], [])
        # Without owners it is free, and not in the hands.
        made.remove(0, FILE_PAGE)
        self.check(made, [[], []], [0, 1], [])

    def test_remove_of_what_is_no_owner_of_it(self):
        made = taken(4, hands=[2], owners=[(0, (0, 1)), (1, (0, 2))])
        for number, owner in ((0, (0, 2)), (1, (0, 1)), (0, (1, 0)), (0, (3, 3)), (2, (0, 1)), (3, (0, 1)),
                              (0, FILE_PAGE)):
            self.check_refused(made, 4, made.remove, number, owner)
        made.remove(0, (0, 1))
        self.check_refused(made, 4, made.remove, 0, (0, 1))

    def test_place_of(self):
        made = taken(4, hands=[0], owners=[(3, (0, 1)), (1, FILE_PAGE), (3, (1, 0))])
        for owner, place in (((0, 1), 3), (FILE_PAGE, 1), ((1, 0), 3), ((1, 1), None), (("file", 0, 3), None)):
            self.assertEqual(made.place_of(owner), place)
        made.remove(3, (0, 1))
        self.assertIsNone(made.place_of((0, 1)))
        made.add(0, (0, 1))
        self.assertEqual(made.place_of((0, 1)), 0)

    def test_each_object_is_its_own(self):
        made, other = Owners(2), Owners(2)
        made.take()
        made.add(0, (0, 1))
        self.check(other, [[], []], [0, 1], [])


class NumberTest(OwnersCase):
    def test_numbers_that_do_not_exist(self):
        for many in (0, 1, 3, 12):
            made = taken(many, hands=range(many))
            if many:
                made.add(many - 1, (0, 1))
            for number in (-1, -many, many, many + 1, 100, True, False):
                if number is True or number is False or not 0 <= number < many:
                    for function, arguments in (
                        (made.give_back, ()), (made.hold, ()), (made.owners, ()),
                        (made.add, ((0, 5),)), (made.remove, ((0, 1),)), (made.remove, ((0, 5),)),
                    ):
                        with self.subTest(many=many, number=number, function=function):
                            self.check_refused(made, many, function, number, *arguments)

    def test_owners_of_numbers_that_exist(self):
        made = taken(3, hands=[0], owners=[(1, (0, 1))])
        self.assertEqual([made.owners(number) for number in range(3)], [[], [(0, 1)], []])

    def test_none_at_all(self):
        made = Owners(0)
        self.assertIsNone(made.take())
        self.assertIsNone(made.place_of((0, 1)))
        self.assertEqual((made.free(), made.in_hands()), ([], []))


class ListsTest(OwnersCase):
    """Point 1: lists that are returned."""

    def test_returned_lists_are_the_callers(self):
        made = taken(3, hands=[0], owners=[(1, (0, 1))])
        for found in (made.owners(0), made.owners(1), made.free(), made.in_hands()):
            found.append(7)
            found.reverse()
            self.check(made, [[], [(0, 1)], []], [2], [0])

    def test_returned_lists_are_not_changed_later(self):
        made = taken(3, hands=[0], owners=[(1, (0, 1))])
        found = (made.owners(1), made.free(), made.in_hands())
        made.add(1, (0, 2))
        made.take()
        made.give_back(0)
        made.remove(1, (0, 1))
        self.assertEqual(found, ([(0, 1)], [2], [0]))


class HandTest(unittest.TestCase):
    def owners(self, many, *numbers):
        """So many frames, each of these with an owner."""
        return taken(many, owners=[(number, (0, at)) for at, number in enumerate(numbers)])

    def check(self, hand, owners, passed_over, victim, points_to):
        self.assertEqual(hand.victim(owners, passed_over), victim)
        self.assertEqual(hand.points_to(), points_to)

    def test_it_points_to_frame_0_at_first(self):
        for many in (2, 12):
            self.assertEqual(Hand(many).points_to(), 0)

    def test_it_goes_round(self):
        hand, owners = Hand(3), self.owners(3, 0, 1, 2)
        for victim, points_to in ((0, 1), (1, 2), (2, 0), (0, 1), (1, 2), (2, 0)):
            self.check(hand, owners, [], victim, points_to)

    def test_it_passes_over_frames_without_owners(self):
        hand, owners = Hand(5), self.owners(5, 1, 4)
        owners.hold(2)
        for victim, points_to in ((1, 2), (4, 0), (1, 2), (4, 0)):
            self.check(hand, owners, [], victim, points_to)

    def test_it_passes_over_those_in_the_list(self):
        hand, owners = Hand(4), self.owners(4, 0, 1, 2, 3)
        self.check(hand, owners, [0, 2], 1, 2)
        self.check(hand, owners, [2], 3, 0)
        self.check(hand, owners, [3, 1, 0], 2, 3)
        self.check(hand, owners, [2, 3], 0, 1)

    def test_it_finds_the_frame_before_the_one_that_it_points_to(self):
        hand, owners = Hand(3), self.owners(3, 0, 1, 2)
        self.check(hand, owners, [], 0, 1)
        self.check(hand, owners, [1, 2], 0, 1)
        self.check(hand, owners, [2, 1], 0, 1)

    def test_without_a_victim_it_stays(self):
        hand, owners = Hand(3), self.owners(3, 0, 1)
        self.check(hand, owners, [], 0, 1)
        self.check(hand, owners, [0, 1], None, 1)
        self.check(hand, owners, [0, 1, 2], None, 1)
        self.check(hand, Owners(3), [], None, 1)
        self.check(hand, owners, [], 1, 2)

    def test_numbers_in_the_list_that_do_not_exist_have_no_effect(self):
        hand, owners = Hand(2), self.owners(2, 0, 1)
        for victim, points_to in ((0, 1), (1, 0)):
            self.check(hand, owners, [-1, -2, 2, 3, 100], victim, points_to)
        self.check(hand, owners, [-1, 0, 2], 1, 0)

    def test_it_changes_nothing_but_itself(self):
        hand, owners = Hand(3), self.owners(3, 0, 2)
        owners.hold(1)
        before = owners_of(owners, 3)
        passed_over = [2, 0, 7]
        hand.victim(owners, passed_over)
        hand.victim(owners, [])
        self.assertEqual(owners_of(owners, 3), before)
        self.assertEqual(passed_over, [2, 0, 7])

    def test_every_place_and_list(self):
        for start in range(4):
            for owned in range(16):
                for passed in range(16):
                    hand = Hand(4)
                    # The hand points to `start` behind the victim before it.
                    hand.victim(self.owners(4, (start - 1) % 4), [])
                    owners = self.owners(4, *[frame for frame in range(4) if owned >> frame & 1])
                    passed_over = [frame for frame in range(4) if passed >> frame & 1]
                    around = [(start + step) % 4 for step in range(4)]
                    found = [frame for frame in around if owned >> frame & 1 and frame not in passed_over]
                    if found:
                        self.check(hand, owners, passed_over, found[0], (found[0] + 1) % 4)
                    else:
                        self.check(hand, owners, passed_over, None, start)


if __name__ == "__main__":
    unittest.main()
