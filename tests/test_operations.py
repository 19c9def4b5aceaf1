"""The history of a scanner, its checkpoints, and lists of operations: point 18."""

import unittest
from itertools import product

from squaremark.errors import (
    DecodeFailed, FrameNotFound, InvalidImage, InvalidName, InvalidOperation, MismatchedPart, UnknownCheckpoint,
    UnknownPart,
)
from squaremark.orientation import merge
from squaremark.scanner import Scanner, replay
from tests import drawing
from tests.views import LABEL, LABELS, ScannerTests, TEXT, filled, look, without_body

BLANK = ("." * 10,) * 10
NAMES = ["a", "z", "ab", "zzzzzzzz", "abcdefgh", "undo", "add"]
NOT_NAMES = [
    None, True, False, 0, 1, (), ("a",), [], ["a"], "", "abcdefghi", "zzzzzzzzz" * 9, "A", "Ab", "aB", "a1", "1", "0",
    " ", "a b", " a", "a ", "a\n", "\n", "a_b", "_", "-", "a.", "\u00e9", "a\u00df", "\u0430", "{", "`", "@", "[",
]
NOT_OPERATIONS = [
    None, True, False, 0, 1, "", "discard", (), ("discard",), ("add_view",), ("undo",), ("discard", 0, 0),
    ("add_view", LABEL, LABEL), ["discard", 0], ["add_view", LABEL], ("undo", 0), ("undo", None), ("save", "a"),
    ("restore", "a"), ("merged_view", 0), ("message", None), ("apply_all", []), ("", 0), ("Discard", 0),
    ("discard ", 0), ("addview", LABEL), (None, 0), (True, 0), (0, 0), (("discard",), 0), (["discard"], 0),
    (0, "discard"), (LABEL, "add_view"), LABEL,
]
# Each operation fails on a scanner that holds part 0 of LABELS alone.
FAILURES = [
    (("add_view", None), InvalidImage, {"row": 0, "column": -1}),
    (("add_view", LABELS[0][:7] + (None,) + LABELS[0][8:]), InvalidImage, {"row": 7, "column": -1}),
    (("add_view", 0), InvalidImage, {"row": 0, "column": -1}),
    (("add_view", BLANK), FrameNotFound, {}),
    (("add_view", drawing.erase(LABELS[0], range(4))), DecodeFailed, {"block": -1}),
    (("add_view", LABEL), MismatchedPart, {"index": 0}),
    (("discard", 1), UnknownPart, {}),
    (("discard", -1), UnknownPart, {}),
    (("discard", False), UnknownPart, {}),
    (("discard", None), UnknownPart, {}),
    (("discard", []), UnknownPart, {}),
]
# Operations on a scanner without views, and what they return.
OPERATIONS = [
    ("add_view", drawing.view(LABELS[1], 3)),
    ("add_view", without_body(LABELS[3])),
    ("add_view", drawing.view(LABELS[1], 6)),
    ("discard", 1),
    ("add_view", drawing.view(LABELS[0], 1)),
    ("discard", 3),
    ("add_view", LABELS[2]),
    ("add_view", LABELS[3]),
]
RESULTS = [(1, True), (3, False), (1, True), 2, (0, True), 1, (2, True), (3, True)]


def apply(scanner, operations):
    """The results of operations, applied by the methods of that name."""
    return [getattr(scanner, name)(argument) for name, argument in operations]


def after(operations):
    scanner = Scanner()
    apply(scanner, operations)
    return scanner


class Watched(Scanner):
    """A scanner that notes whether it is busy while operations are applied to it."""

    def __init__(self):
        Scanner.__init__(self)
        self.noted = []

    def add_view(self, view):
        self.noted.append(self.is_busy())
        return Scanner.add_view(self, view)

    def discard(self, part):
        self.noted.append(self.is_busy())
        return Scanner.discard(self, part)


class History(ScannerTests):
    def test_example(self):
        self.assertEqual(filled(LABEL).history(), [("add_view", LABEL)])

    def test_every_operation(self):
        scanner = Scanner()
        self.assertEqual(scanner.history(), [])
        for count, (operation, result) in enumerate(zip(OPERATIONS, RESULTS), 1):
            self.assertEqual(apply(scanner, [operation]), [result])
            self.assertEqual(scanner.history(), OPERATIONS[:count])

    def test_failed_operations_are_no_part_of_it(self):
        scanner = filled(LABELS[0])
        for (name, argument), error, attributes in FAILURES:
            self.check_unchanged(scanner, error, attributes, name, argument)
            self.assertEqual(scanner.history(), [("add_view", LABELS[0])])

    def test_nothing_else_is_part_of_it(self):
        scanner = filled(LABELS[0])
        scanner.save("a")
        scanner.statuses()
        scanner.merged_view(0)
        scanner.restore("a")
        scanner.apply_all([])
        self.assertEqual(scanner.history(), [("add_view", LABELS[0])])

    def test_returned_lists_are_not_kept(self):
        scanner = after(OPERATIONS)
        scanner.history().clear()
        scanner.history().append(("discard", 0))
        scanner.history().pop(0)
        self.assertEqual(scanner.history(), OPERATIONS)
        self.assertEqual(scanner.message(), TEXT)

    def test_kinds(self):
        self.assertIs(type(after(OPERATIONS).history()), list)
        self.assertEqual({type(operation) for operation in after(OPERATIONS).history()}, {tuple})


class Undo(ScannerTests):
    def test_example(self):
        scanner = filled(LABEL)
        self.assertEqual([scanner.undo(), scanner.undo(), scanner.statuses()], [True, False, []])

    def test_until_there_is_none(self):
        scanner = after(OPERATIONS)
        for count in range(len(OPERATIONS) - 1, -1, -1):
            self.assertIs(scanner.undo(), True)
            self.assertEqual(look(scanner), look(after(OPERATIONS[:count])))
        for _ in range(3):
            self.assertIs(scanner.undo(), False)
            self.assertEqual(look(scanner), look(Scanner()))

    def test_operations_after_it(self):
        scanner = after(OPERATIONS[:3])
        scanner.undo()
        scanner.undo()
        self.assertEqual(apply(scanner, [("discard", 1), ("add_view", LABEL)]), [1, (0, True)])
        self.assertEqual(scanner.history(), [OPERATIONS[0], ("discard", 1), ("add_view", LABEL)])
        self.assertEqual(scanner.statuses(), ["decoded", "missing"])
        scanner.undo()
        scanner.undo()
        self.assertEqual(look(scanner), look(after(OPERATIONS[:1])))

    def test_a_list_of_operations_is_undone_one_by_one(self):
        scanner = Scanner()
        scanner.apply_all(OPERATIONS)
        for count in range(len(OPERATIONS) - 1, -1, -1):
            self.assertIs(scanner.undo(), True)
            self.assertEqual(look(scanner), look(after(OPERATIONS[:count])))
        self.assertIs(scanner.undo(), False)

    def test_discarded_views_come_back_in_their_order(self):
        images = [drawing.flip(LABELS[0], [(9, at), (9, at + 1)]) for at in range(3, 6)]
        scanner = filled(*images, LABELS[1])
        self.assertEqual(scanner.discard(0), 3)
        scanner.undo()
        self.assertEqual(scanner.merged_view(0), merge(images))
        self.assertEqual(scanner.discard(0), 3)


class Checkpoints(ScannerTests):
    def test_example(self):
        scanner = Scanner()
        scanner.save("empty")
        scanner.add_view(LABEL)
        scanner.restore("empty")
        self.assertEqual([scanner.statuses(), scanner.checkpoints()], [[], ["empty"]])

    def test_names(self):
        for name in NAMES:
            scanner = Scanner()
            self.assertIs(scanner.save(name), None)
            self.assertEqual(scanner.checkpoints(), [name])
            self.assertIs(scanner.restore(name), None)

    def test_every_letter(self):
        for code in range(128):
            scanner = filled(LABEL)
            for name in (chr(code), "a" + chr(code), chr(code) + "zzzzzzz"):
                if chr(code) in "abcdefghijklmnopqrstuvwxyz":
                    scanner.save(name)
                    self.assertIn(name, scanner.checkpoints())
                else:
                    self.check_unchanged(scanner, InvalidName, {}, "save", name)

    def test_invalid_names(self):
        for scanner in [Scanner(), filled(LABEL)]:
            for name in NOT_NAMES:
                with self.subTest(name=name):
                    self.check_unchanged(scanner, InvalidName, {}, "save", name)

    def test_unknown_checkpoints(self):
        scanner = filled(LABEL)
        scanner.save("abc")
        for name in NOT_NAMES + ["a", "b", "ab", "abcd"]:
            with self.subTest(name=name):
                self.check_unchanged(scanner, UnknownCheckpoint, {}, "restore", name)
        self.check_unchanged(Scanner(), UnknownCheckpoint, {}, "restore", "abc")

    def test_order_of_the_names(self):
        scanner = Scanner()
        self.assertEqual(scanner.checkpoints(), [])
        for name in ["b", "ab", "zz", "a", "z", "abc", "b", "a"]:
            scanner.save(name)
        self.assertEqual(scanner.checkpoints(), ["a", "ab", "abc", "b", "z", "zz"])

    def test_every_state(self):
        scanner = Scanner()
        names = ["a" * count for count in range(1, 9)]
        for count, name in enumerate(names):
            scanner.save(name)
            apply(scanner, OPERATIONS[count:count + 1])
        for count, name in sorted(enumerate(names), key=lambda entry: entry[0] * 5 % 8):
            scanner.restore(name)
            expected = after(OPERATIONS[:count])
            self.assertEqual(scanner.history(), OPERATIONS[:count])
            self.assertEqual(scanner.statuses(), expected.statuses())
            self.assertEqual(scanner.checkpoints(), names)
            apply(scanner, OPERATIONS[count:])
            self.assertEqual(scanner.message(), after(OPERATIONS).message())

    def test_a_name_that_is_saved_twice(self):
        scanner = Scanner()
        scanner.save("a")
        apply(scanner, OPERATIONS[:2])
        scanner.save("a")
        scanner.undo()
        scanner.restore("a")
        self.assertEqual(scanner.history(), OPERATIONS[:2])
        self.assertEqual(scanner.checkpoints(), ["a"])

    def test_a_saved_state_does_not_change(self):
        scanner = after(OPERATIONS[:3])
        scanner.save("a")
        for change in [
            lambda: scanner.add_view(LABELS[0]), lambda: scanner.discard(1), scanner.undo,
            lambda: scanner.apply_all(OPERATIONS[3:]), lambda: [scanner.undo() for _ in range(4)],
            lambda: scanner.history().clear(),
        ]:
            change()
            scanner.restore("a")
            self.assertEqual(scanner.history(), OPERATIONS[:3])
            self.assertEqual(scanner.statuses(), ["missing", "decoded", "missing", "unreadable"])
            self.assertEqual(scanner.merged_view(1), LABELS[1])

    def test_undo_after_restoring(self):
        scanner = after(OPERATIONS[:3])
        scanner.save("a")
        scanner.discard(3)
        scanner.discard(1)
        scanner.restore("a")
        self.assertIs(scanner.undo(), True)
        self.assertEqual(scanner.history(), OPERATIONS[:2])
        scanner.restore("a")
        self.assertEqual(scanner.history(), OPERATIONS[:3])
        self.assertEqual([scanner.undo() for _ in range(4)], [True, True, True, False])
        self.assertEqual(scanner.checkpoints(), ["a"])

    def test_another_message_after_restoring(self):
        scanner = filled(LABEL)
        scanner.save("a")
        scanner.discard(0)
        scanner.add_view(LABELS[0])
        scanner.restore("a")
        self.check_unchanged(scanner, MismatchedPart, {"index": 0}, "add_view", LABELS[0])
        self.assertEqual(scanner.message(), "7")

    def test_scanners_have_their_own(self):
        first, second = Scanner(), Scanner()
        first.save("a")
        first.add_view(LABEL)
        self.assertEqual((second.checkpoints(), second.history(), second.statuses()), ([], [], []))

    def test_returned_lists_are_not_kept(self):
        scanner = Scanner()
        scanner.save("a")
        scanner.checkpoints().append("b")
        scanner.checkpoints().clear()
        self.assertEqual(scanner.checkpoints(), ["a"])


class ApplyAll(ScannerTests):
    def test_example(self):
        self.assertEqual(Scanner().apply_all([("add_view", LABEL), ("discard", 0)]), [(0, True), 1])

    def test_results(self):
        for count in range(len(OPERATIONS) + 1):
            scanner = Scanner()
            results = scanner.apply_all(OPERATIONS[:count])
            self.assertEqual(results, RESULTS[:count])
            self.assertIs(type(results), list)
            self.assertEqual(look(scanner), look(after(OPERATIONS[:count])))
            self.assertEqual(scanner.apply_all(OPERATIONS[count:]), RESULTS[count:])
            self.assertEqual(look(scanner), look(after(OPERATIONS)))

    def test_invalid_items_at_each_place(self):
        for scanner in [Scanner(), filled(LABELS[0]), after(OPERATIONS)]:
            for item in NOT_OPERATIONS:
                for index in range(4):
                    operations = [("add_view", LABELS[at]) for at in range(4)]
                    operations[index] = item
                    with self.subTest(item=item, index=index):
                        self.check_unchanged(scanner, InvalidOperation, {"index": index}, "apply_all", operations)

    def test_the_first_invalid_item(self):
        operations = [("add_view", LABEL), None, ("discard", 0), (), ("undo", 0)]
        self.check_unchanged(Scanner(), InvalidOperation, {"index": 1}, "apply_all", operations)
        self.check_unchanged(Scanner(), InvalidOperation, {"index": 0}, "apply_all", operations[3:])

    def test_what_is_no_list(self):
        for value in [None, True, False, 0, 1, "", "discard", (), (("add_view", LABEL),), ("add_view", LABEL)]:
            for scanner in [Scanner(), filled(LABEL)]:
                self.check_unchanged(scanner, InvalidOperation, {"index": 0}, "apply_all", value)

    def test_invalid_items_come_before_errors(self):
        for failure, _, _ in FAILURES:
            operations = [failure, ("discard", 0), failure, ["discard", 0], failure]
            self.check_unchanged(filled(LABELS[0]), InvalidOperation, {"index": 3}, "apply_all", operations)

    def test_an_error_at_each_place(self):
        valid = [("add_view", LABELS[0]), ("add_view", without_body(LABELS[0])), ("add_view", LABELS[0])]
        for (failure, error, attributes), index in product(FAILURES, range(4)):
            scanner = filled(LABELS[0])
            scanner.save("a")
            operations = valid[:index] + [failure] + valid[index:] + [("discard", 9)]
            self.check_unchanged(scanner, error, attributes, "apply_all", operations)
            self.assertEqual(scanner.history(), [("add_view", LABELS[0])])
            self.assertIs(scanner.is_busy(), False)
            self.assertEqual(scanner.apply_all([]), [])

    def test_an_error_after_discards(self):
        scanner = after(OPERATIONS)
        operations = [("discard", part) for part in (2, 0)] + [("add_view", LABEL)]
        self.check_unchanged(scanner, MismatchedPart, {"index": 0}, "apply_all", operations)
        # Without views, the scanner takes another label, but its part 3 is gone.
        operations = [("discard", part) for part in (2, 0, 3)] + [("add_view", LABEL), ("discard", 3)]
        self.check_unchanged(scanner, UnknownPart, {}, "apply_all", operations)
        self.assertEqual(scanner.apply_all(operations[:-1]), [1, 1, 1, (0, True)])

    def test_the_list_is_not_kept(self):
        operations = list(OPERATIONS)
        scanner = Scanner()
        results = scanner.apply_all(operations)
        self.assertEqual(operations, OPERATIONS)
        operations.clear()
        results.clear()
        self.assertEqual(look(scanner), look(after(OPERATIONS)))

    def test_is_busy(self):
        scanner = Watched()
        self.assertIs(scanner.is_busy(), False)
        scanner.add_view(LABELS[1])
        scanner.discard(1)
        self.assertEqual(scanner.noted, [False, False])
        scanner.apply_all([("add_view", LABELS[1]), ("discard", 1)])
        self.assertEqual(scanner.noted[2:], [True, True])
        self.assertIs(scanner.is_busy(), False)
        for operations in [[("discard", 1)], [("add_view", LABEL), ("add_view", LABELS[0])]]:
            self.assertRaises((UnknownPart, MismatchedPart), scanner.apply_all, operations)
            self.assertIs(scanner.is_busy(), False)
            self.assertEqual(scanner.noted.pop(), True)
        self.assertRaises(InvalidOperation, scanner.apply_all, [None])
        self.assertIs(scanner.is_busy(), False)
        self.assertIs(Scanner().is_busy(), False)


class Replay(ScannerTests):
    def check_invalid(self, operations, index):
        with self.subTest(operations=operations):
            with self.assertRaises(InvalidOperation) as caught:
                replay(operations)
            self.assertEqual(caught.exception.index, index)

    def test_examples(self):
        self.assertEqual(replay([("add_view", LABEL)]).message(), "7")
        self.check_invalid([("discard", 0)], 0)

    def test_histories(self):
        for count in range(len(OPERATIONS) + 1):
            scanner = replay(OPERATIONS[:count])
            self.assertIs(type(scanner), Scanner)
            self.assertEqual(look(scanner), look(after(OPERATIONS[:count])))
            self.assertEqual(look(replay(scanner.history())), look(scanner))
            self.assertEqual(apply(scanner, OPERATIONS[count:]), RESULTS[count:])

    def test_a_history_after_undoing_and_restoring(self):
        scanner = after(OPERATIONS)
        scanner.undo()
        scanner.undo()
        scanner.save("a")
        scanner.discard(0)
        scanner.undo()
        scanner.add_view(LABELS[1])
        again = replay(scanner.history())
        self.assertEqual(again.history(), scanner.history())
        self.assertEqual(again.statuses(), scanner.statuses())
        self.assertEqual(again.checkpoints(), [])
        scanner.restore("a")
        self.assertEqual(replay(scanner.history()).statuses(), scanner.statuses())

    def test_a_new_scanner_each_time(self):
        history = filled(LABEL).history()
        first, second = replay(history), replay(history)
        first.discard(0)
        self.assertEqual((first.statuses(), second.statuses()), ([], ["decoded", "missing"]))
        self.assertEqual(history, [("add_view", LABEL)])
        history.clear()
        self.assertEqual(second.history(), [("add_view", LABEL)])

    def test_items_that_are_no_operations(self):
        for item in NOT_OPERATIONS:
            for index in range(4):
                operations = [("add_view", LABELS[at]) for at in range(4)]
                operations[index] = item
                self.check_invalid(operations, index)

    def test_what_is_no_list(self):
        for value in [None, True, False, 0, 1, "", "discard", (), (("add_view", LABEL),), ("add_view", LABEL)]:
            self.check_invalid(value, 0)

    def test_operations_that_fail(self):
        valid = [("add_view", LABELS[0]), ("add_view", without_body(LABELS[0])), ("add_view", LABELS[0])]
        for (failure, _, _), index in product(FAILURES, range(1, 4)):
            self.check_invalid(valid[:index] + [failure] + valid[index:], index)
            self.check_invalid(valid[:index] + [failure] + valid[index:] + [failure], index)
            # What is no operation is told first, wherever it stands.
            self.check_invalid(valid[:index] + [failure] + valid[index:] + [None, failure, 7], 4)

    def test_operations_that_fail_at_first(self):
        for failure, error, _ in FAILURES:
            if error is not MismatchedPart:
                self.check_invalid([failure, failure, ("add_view", LABEL)], 0)
        self.check_invalid([("discard", 0), ("undo", 0)], 1)


if __name__ == "__main__":
    unittest.main()
