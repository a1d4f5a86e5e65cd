"""Points 48 to 50: the judge."""

import copy
import unittest

from frametally.judge import first_fault, in_order, plain_at
from frametally.plain import after_call, new_plain
from frametally.world import World
from tests.interface import check_function
from tests.play import Numbers
from tests.worlds import new_calls

OK = ("ok", None)
FULL = ("full", None)
FINE = ("", -1)

# Processor 1 stores (witness 7) behind the map and ahead of the load of processor 0, and runs a fork.
MAP = (0, 0, ("map", 0, 0, 4, "rw", None), OK, 4, 1, 4)
LOAD = (0, 1, ("load", 0, 2, 1), ("ok", 9), 11, 5, 12)
CHANGE = (0, 2, ("change", 0, 2, 1, 9, 8), ("ok", True), 13, 13, 13)
BEGIN = (1, 0, ("begin",), ("ok", 1), 3, 2, 3)
STORE = (1, 1, ("store", 0, 2, 1, 9), OK, 7, 6, 8)
FORK = (1, 2, ("fork", 0), None, 14, 9, None)
CHILD = (2, 0, ("load", 2, 2, 1), ("ok", 8), 15, 10, 16)
WAITING = (2, 1, ("evict",), None, None, 17, None)
ROWS = (MAP, LOAD, CHANGE, BEGIN, STORE, FORK, CHILD, WAITING)


def bent(**changed):
    """The rows, with some of them changed: each name is that of a row, its value a dict from fields to new values."""
    fields = ("processor", "index", "call", "answer", "witness", "first", "last")
    rows = []
    for name, row in zip(("map", "load", "change", "begin", "store", "fork", "child", "waiting"), ROWS):
        new = changed.get(name, {})
        rows.append(tuple(new.get(field, value) for field, value in zip(fields, row)))
    return rows


class JudgeCase(unittest.TestCase):
    def check(self, rows, fault):
        before = copy.deepcopy(rows)
        self.assertEqual(first_fault(rows), fault)
        self.assertEqual(rows, before)


class InterfaceTest(unittest.TestCase):
    def test_names_and_arguments(self):
        check_function(self, in_order, "frametally.judge", ["rows"])
        check_function(self, plain_at, "frametally.judge", ["rows", "number"])
        check_function(self, first_fault, "frametally.judge", ["rows"])


class OrderTest(unittest.TestCase):
    """Point 48."""

    def test_in_order(self):
        self.assertEqual(in_order(list(ROWS)), [3, 0, 4, 1, 2, 5, 6])
        self.assertEqual(in_order([]), [])
        self.assertEqual(in_order([WAITING]), [])
        self.assertEqual(in_order([WAITING, CHILD, MAP]), [2, 1])
        self.assertEqual(in_order(bent(load={"answer": FULL, "witness": None})), [3, 0, 4, 2, 5, 6])

    def test_numbers_of_several_digits(self):
        rows = [(0, at, ("begin",), None, witness, 1, None) for at, witness in enumerate((100, 20, 9, None, 3, 21))]
        self.assertEqual(in_order(rows), [4, 2, 1, 5, 0])

    def test_plain_at(self):
        rows = list(ROWS)
        pages = {page: ("rw", None) for page in range(4)}
        behind = {
            -1: {0: ({}, {})}, 0: {0: ({}, {})}, 2: {0: ({}, {})},
            3: {0: ({}, {}), 1: ({}, {})},
            4: {0: (pages, {}), 1: ({}, {})}, 6: {0: (pages, {}), 1: ({}, {})},
            7: {0: (pages, {(2, 1): 9}), 1: ({}, {})}, 12: {0: (pages, {(2, 1): 9}), 1: ({}, {})},
            13: {0: (pages, {(2, 1): 8}), 1: ({}, {})},
        }
        behind[14] = {**behind[13], 2: (pages, {(2, 1): 8})}
        behind[15] = behind[14]
        behind[10 ** 9] = behind[14]
        for number, spaces in behind.items():
            self.assertEqual(plain_at(rows, number), {"spaces": spaces, "files": {}})
        self.assertEqual(rows, list(ROWS))
        self.assertEqual(plain_at([], 5), new_plain())
        self.assertEqual(plain_at([WAITING], 100), new_plain())

    def test_plain_at_looks_at_calls_and_not_at_answers(self):
        self.assertEqual(plain_at(bent(begin={"answer": ("none", None)}), 3)["spaces"], {0: ({}, {}), 1: ({}, {})})


class FineTest(JudgeCase):
    """Point 50."""

    def test_histories_without_a_fault(self):
        self.check([], FINE)
        self.check(list(ROWS), FINE)
        self.check([BEGIN, MAP, STORE], FINE)
        # Rows may stand in any order.
        self.check(list(reversed(ROWS)), FINE)

    def test_an_access_can_be_everything(self):
        self.check([(0, 0, ("load", 0, 0, 0), ("fault", None), 1, 1, 1)], FINE)
        self.check([(0, 0, ("fork", 0), None, 1, 1, None)], FINE)

    def test_full(self):
        for call in (("load", 0, 1, 0), ("store", 0, 1, 0, 5), ("change", 0, 1, 0, 5, 6)):
            self.check(bent(load={"call": call, "answer": FULL, "witness": None}), FINE)
        # The plain state says nothing about them, and nothing is done by them.
        self.check(bent(store={"answer": FULL, "witness": None}, load={"answer": ("ok", 0)},
                        change={"answer": ("ok", False)}, child={"answer": ("ok", 0)}), FINE)
        rows = [(0, at, ("begin",), ("ok", at + 1), 2 * at + 2, 2 * at + 1, 2 * at + 2) for at in range(3)]
        self.check([*rows, (0, 3, ("begin",), FULL, 8, 7, 8), (0, 4, ("fork", 0), FULL, 10, 9, 10)], FINE)

    def test_refused_calls(self):
        self.check(bent(store={"call": ("store", 3, 2, 1, 9), "answer": ("none", None)}, load={"answer": ("ok", 0)},
                        change={"answer": ("ok", False)}, child={"answer": ("ok", 0)}), FINE)

    def test_true_histories(self):
        for seed in range(40):
            numbers = Numbers(seed)
            processors = 1 + numbers.below(3)
            calls = new_calls(numbers, processors, 12)
            world = World(processors, 2 + numbers.below(5), numbers.below(4), calls)
            for _ in range(30):
                world.play([numbers.below(2 * processors) for _ in range(numbers.below(20))])
                rows = world.history()
                self.check(rows, FINE)
                plain = new_plain()
                for at in in_order(rows):
                    plain = after_call(plain, rows[at][2])
                self.assertEqual(plain_at(rows, world.memory.count), plain)
            self.assertIs(world.settle(400 * sum(map(len, calls))), True)
            self.check(world.history(), FINE)


class TimeTest(JudgeCase):
    def test_first_is_less_than_1(self):
        for first in (0, -1, -100):
            self.check(bent(map={"first": first}), ("time", 0))
            self.check(bent(fork={"first": first}), ("time", 5))
            self.check(bent(waiting={"first": first}), ("time", 7))

    def test_last_is_less_than_first(self):
        self.check(bent(load={"first": 13}), ("time", 1))
        self.check(bent(load={"witness": None, "answer": FULL, "first": 13}), ("time", 1))
        self.check(bent(load={"witness": None, "answer": FULL, "first": 12}), FINE)
        self.check(bent(load={"witness": None, "answer": FULL, "last": 4}), ("time", 1))

    def test_the_witness_is_less_than_first(self):
        self.check(bent(child={"witness": 9}), ("time", 6))
        self.check(bent(fork={"witness": 8}), ("time", 5))
        self.check(bent(waiting={"witness": 16}), ("time", 7))
        self.check(bent(waiting={"witness": 17}), FINE)
        self.check(bent(fork={"first": 14}), FINE)
        self.check(bent(fork={"first": 15}), ("time", 5))

    def test_the_witness_is_greater_than_last(self):
        self.check(bent(store={"witness": 9}), ("time", 4))
        self.check(bent(store={"witness": 8}), FINE)
        self.check(bent(child={"witness": 17}), ("time", 6))

    def test_the_first_row_counts(self):
        self.check(bent(begin={"first": 0}, load={"witness": 99}), ("time", 1))
        self.check(bent(begin={"first": 0}, child={"witness": 99}), ("time", 3))


class RowTest(JudgeCase):
    def test_another_row_with_the_same_processor_and_index(self):
        self.check([*ROWS, STORE], ("row", 8))
        self.check(bent(begin={"processor": 0, "index": 1}), ("row", 3))
        self.check([*ROWS, (2, 1, ("load", 0, 0, 0), None, None, 20, None)], ("row", 8))
        self.check([MAP, (0, 0, ("begin",), None, None, 20, None)], ("row", 1))
        self.check([(0, 0, ("begin",), None, None, 20, None), MAP], ("row", 1))

    def test_no_row_before_it(self):
        self.check([LOAD], ("row", 0))
        self.check([MAP, CHANGE], ("row", 1))
        self.check(bent(begin={"index": 3}), ("row", 3))
        self.check([MAP, (0, 5, ("begin",), None, None, 20, None)], ("row", 1))

    def test_the_row_before_it_is_one_of_another_processor(self):
        self.check([MAP, (1, 1, ("begin",), None, None, 20, None)], ("row", 1))

    def test_the_row_before_it_has_not_ended(self):
        self.check([*ROWS, (1, 3, ("begin",), None, None, 20, None)], ("row", 8))
        self.check(bent(map={"answer": None, "last": None}), ("row", 1))

    def test_the_row_before_it_has_not_ended_in_time(self):
        self.check(bent(load={"first": 4}), ("row", 1))
        self.check(bent(map={"last": 5}), ("row", 1))
        self.check(bent(map={"last": 9}), ("row", 1))
        self.check(bent(load={"last": 13}), ("row", 2))

    def test_the_row_before_it_may_stand_behind_it(self):
        self.check([LOAD, MAP, STORE, BEGIN], FINE)

    def test_the_first_row_counts(self):
        self.check([MAP, LOAD, CHANGE, STORE, MAP], ("row", 3))
        self.check([MAP, MAP, STORE], ("row", 1))


class MissingTest(JudgeCase):
    def test_without_a_witness_and_another_answer_than_full(self):
        for answer in (("ok", 9), OK, ("none", None), ("fault", None), ("full", 0), ("taken", None)):
            self.check(bent(load={"witness": None, "answer": answer}), ("missing", 1))
        self.check(bent(change={"witness": None}), ("missing", 2))
        self.check(bent(store={"witness": None}), ("missing", 4))

    def test_other_calls_without_a_witness(self):
        for call in (
            ("map", 0, 0, 1, "r", None), ("unmap", 0, 0, 1), ("protect", 0, 0, 1, "r"), ("begin",), ("fork", 0),
            ("end", 0),
            ("evict",), ("sync", 0),
        ):
            for answer in (OK, FULL, ("none", None), ("ok", 1)):
                self.check(bent(waiting={"call": call, "witness": None, "answer": answer, "last": 20}), ("missing", 7))

    def test_full_with_a_witness(self):
        for name, at in (("map", 0), ("load", 1), ("change", 2), ("store", 4)):
            self.check(bent(**{name: {"answer": FULL}}), ("missing", at))
        for call in (("unmap", 0, 0, 1), ("protect", 0, 0, 1, "r"), ("end", 0), ("evict",), ("sync", 0)):
            self.check(bent(waiting={"call": call, "witness": 20, "answer": FULL, "last": 20}), ("missing", 7))
        # For these it is a matter of the plain machine.
        for call in (("begin",), ("fork", 0)):
            self.check(bent(waiting={"call": call, "witness": 20, "answer": FULL, "last": 20}), ("answer", 7))

    def test_calls_that_have_not_ended(self):
        self.check(bent(fork={"witness": None}, child={"answer": ("none", None)}), FINE)
        self.check(bent(waiting={"call": ("load", 0, 0, 0)}), FINE)

    def test_the_first_row_counts(self):
        self.check(bent(change={"witness": None}, load={"answer": FULL}), ("missing", 1))
        self.check(bent(change={"witness": None}, store={"answer": FULL}), ("missing", 2))


class TwiceTest(JudgeCase):
    def test_the_same_witness(self):
        self.check(bent(store={"witness": 7}, load={"witness": 7}), ("twice", 4))
        self.check(bent(child={"witness": 14}), ("twice", 6))
        self.check(bent(map={"witness": 3}), ("twice", 3))

    def test_none_is_no_witness(self):
        rows = [(at, 0, ("load", 0, 0, 0), FULL, None, 1, 9) for at in range(3)]
        self.check(rows, FINE)
        rows = [(at, 0, ("load", 0, 0, 0), None, None, 1, None) for at in range(3)]
        self.check(rows, FINE)

    def test_the_first_row_counts(self):
        rows = [(at, 0, ("begin",), None, witness, 1, None) for at, witness in enumerate((5, 6, 7, 6, 5))]
        self.check(rows, ("twice", 3))


class AnswerTest(JudgeCase):
    def test_another_answer(self):
        for answer in (("ok", 8), ("ok", 0), OK, ("fault", None), ("none", None), ("ok",), "ok", 9):
            self.check(bent(load={"answer": answer}), ("answer", 1))
        self.check(bent(begin={"answer": ("ok", 2)}), ("answer", 3))
        self.check(bent(map={"answer": ("taken", None)}), ("answer", 0))
        self.check(bent(change={"answer": ("ok", False)}), ("answer", 2))
        self.check(bent(child={"answer": ("ok", 9)}), ("answer", 6))

    def test_true_is_not_1(self):
        self.check(bent(change={"answer": ("ok", 1)}), ("answer", 2))
        self.check(bent(begin={"answer": ("ok", True)}), ("answer", 3))
        rows = [(0, 0, ("map", 0, 0, 1, "r", None), OK, 1, 1, 1), (0, 1, ("load", 0, 0, 0), ("ok", False), 2, 2, 2)]
        self.check(rows, ("answer", 1))

    def test_the_order_of_the_history_counts(self):
        # The store took place ahead of the load, whatever the order of the rows.
        self.check(bent(store={"witness": 8}, load={"witness": 8 - 1, "answer": ("ok", 0)}), FINE)
        self.check(bent(store={"witness": 8}, load={"witness": 8 - 1}), ("answer", 1))
        self.check(bent(load={"answer": ("ok", 1)}, store={"answer": ("ok", 1)}), ("answer", 4))
        rows = bent(change={"answer": ("ok", 5)}, begin={"answer": OK}, map={"answer": ("none", None)})
        self.check(rows, ("answer", 3))

    def test_a_fault_of_the_call_and_not_of_the_answer(self):
        self.check(bent(store={"call": ("store", 0, 2, 1, 10)}), ("answer", 1))
        self.check(bent(fork={"call": ("fork", 3)}), ("answer", 6))

    def test_calls_that_have_not_ended_count_if_they_took_place(self):
        self.check(bent(fork={"witness": None}), ("answer", 6))
        self.check(bent(fork={"witness": 16}), ("answer", 6))


class PrecedenceTest(JudgeCase):
    """The faults are looked for in the order of point 49, each at all rows."""

    def test_the_order_of_the_faults(self):
        answer = {"begin": {"answer": ("ok", 3)}}
        twice = {"child": {"witness": 14}}
        missing = {"waiting": {"answer": OK, "last": 20}}
        row = [WAITING]
        time = [(5, 0, ("begin",), None, None, 0, None)]
        self.check(bent(**answer), ("answer", 3))
        self.check(bent(**answer, **twice), ("twice", 6))
        self.check(bent(**answer, **twice, **missing), ("missing", 7))
        self.check(bent(**answer, **twice, **missing) + row, ("row", 8))
        self.check(bent(**answer, **twice, **missing) + row + time, ("time", 9))

    def fault(self, rows):
        """Point 49 once more, row by row."""
        for at, (_, _, _, answer, witness, first, last) in enumerate(rows):
            if first < 1 or (answer is not None and last < first):
                return ("time", at)
            if witness is not None and (witness < first or (answer is not None and witness > last)):
                return ("time", at)
        for at, (processor, index, _, _, _, first, _) in enumerate(rows):
            if any(row[0] == processor and row[1] == index for row in rows[:at]):
                return ("row", at)
            before = [row for row in rows if row[0] == processor and row[1] == index - 1 and row[6] is not None]
            if index != 0 and not any(row[6] < first for row in before):
                return ("row", at)
        for at, (_, _, call, answer, witness, _, _) in enumerate(rows):
            use = call[0] in ("load", "store", "change")
            if answer is not None and witness is None and (answer != FULL or not use):
                return ("missing", at)
            if witness is not None and answer == FULL and call[0] not in ("begin", "fork"):
                return ("missing", at)
        for at, row in enumerate(rows):
            if row[4] is not None and row[4] in [other[4] for other in rows[:at]]:
                return ("twice", at)
        return FINE

    def forged(self, numbers, rows):
        """The rows, one of which is forged."""
        at = numbers.below(len(rows))
        row = list(rows[at])
        field = numbers.below(7)
        if field == 1:
            row[1] = max(0, row[1] + numbers.one_of((-1, 1, 2)))
        elif field == 3:
            row[3] = numbers.one_of((FULL, OK, ("none", None), ("ok", 1)))
            row[6] = row[6] or row[5] + numbers.below(20)
        elif field == 4:
            row[4] = numbers.one_of((None, (row[4] or row[5]) + numbers.below(9) - 4))
        elif field == 5:
            row[5] = row[5] + numbers.below(9) - 4
        elif field == 6 and row[3] is not None:
            row[6] = row[6] + numbers.below(9) - 4
        elif field == 0:
            return rows[:at] + rows[at + 1:]
        else:
            return rows[:at] + [rows[numbers.below(len(rows))]] + rows[at:]
        return rows[:at] + [tuple(row)] + rows[at + 1:]

    def test_forged_histories(self):
        words = {}
        for seed in range(60):
            numbers = Numbers(seed)
            calls = new_calls(numbers, 2, 8)
            world = World(2, 3, 2, calls)
            world.play([numbers.below(4) for _ in range(100)])
            if not world.history():
                continue
            for _ in range(20):
                rows = world.history()
                for _ in range(1 + numbers.below(2)):
                    rows = self.forged(numbers, rows) or rows
                found = first_fault(rows)
                words[found[0]] = True
                if found[0] not in ("", "answer"):
                    self.assertEqual(found, self.fault(rows))
                else:
                    self.assertEqual(self.fault(rows), FINE)
        self.assertEqual(sorted(words), ["", "answer", "missing", "row", "time", "twice"])


if __name__ == "__main__":
    unittest.main()
