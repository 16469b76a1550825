"""Sections 10 to 12: line programs, what is needed of them, and their execution."""

import copy
import random
import unittest

from lasttext import lines as module
from lasttext.lines import needed, run_lines
from lasttext.matrices import operate

MOST = 9999999


def cell(entry):
    return ((entry,),)


def by_definition(leaves, lines, outputs):
    """Section 11 word by word: lines are found as long as a further one is needed."""
    found = set()
    grows = True
    while grows:
        grows = False
        for index in range(len(lines)):
            used = any(leaves + index in lines[other][2] for other in found)
            if index not in found and (leaves + index in outputs or used):
                found.add(index)
                grows = True
    return tuple(sorted(found))


def random_lines(chance, leaves, count):
    """Lines on cells, some of which fault."""
    lines = []
    for index in range(count):
        kind, arity, numbers = chance.choice((
            ("add", 2, ()), ("sub", 2, ()), ("times", 2, ()), ("turn", 1, ()),
            ("stretch", 1, (chance.randint(-1000, 1000),)), ("fill", 0, (1, 1, chance.randint(-99, 99))),
        ))
        if leaves + index == 0:
            kind, arity, numbers = "fill", 0, (1, 1, 7)
        values = tuple(chance.randrange(leaves + index) for _ in range(arity))
        lines.append((kind, numbers, values))
    return tuple(lines)


class Needed(unittest.TestCase):
    LINES = (
        ("add", (), (0, 1)),      # 2
        ("sub", (), (2, 2)),      # 3
        ("times", (), (0, 0)),    # 4
        ("turn", (), (4,)),       # 5
        ("add", (), (3, 1)),      # 6
        ("stretch", (5,), (4,)),  # 7
    )

    def check(self, outputs, expected):
        found = needed(2, self.LINES, outputs)
        self.assertEqual(found, expected)
        self.assertIs(type(found), tuple)

    def test_each_single_output(self):
        self.check((2,), (0,))
        self.check((3,), (0, 1))
        self.check((4,), (2,))
        self.check((5,), (2, 3))
        self.check((6,), (0, 1, 4))
        self.check((7,), (2, 5))

    def test_several_outputs_in_any_order(self):
        self.check((7, 3), (0, 1, 2, 5))
        self.check((3, 7), (0, 1, 2, 5))
        self.check((5, 6, 7), (0, 1, 2, 3, 4, 5))

    def test_equal_outputs(self):
        self.check((6, 6, 6), (0, 1, 4))

    def test_leaves_need_nothing(self):
        self.check((0,), ())
        self.check((1, 0, 1), ())
        self.check((1, 4, 0), (2,))

    def test_no_outputs_and_no_lines(self):
        self.check((), ())
        self.assertEqual(needed(3, (), (0, 2)), ())
        self.assertEqual(needed(0, (), ()), ())

    def test_no_leaves(self):
        lines = (("fill", (1, 1, 1), ()), ("fill", (1, 1, 2), ()), ("add", (), (1, 1)))
        self.assertEqual(needed(0, lines, (2,)), (1, 2))
        self.assertEqual(needed(0, lines, (0,)), (0,))

    def test_the_leaves_are_not_counted_as_lines(self):
        lines = (("turn", (), (5,)), ("turn", (), (0,)), ("turn", (), (6,)))
        self.assertEqual(needed(6, lines, (8,)), (0, 2))

    def test_random_lines_by_the_definition(self):
        chance = random.Random(11)
        for _ in range(200):
            leaves, count = chance.randint(0, 4), chance.randint(0, 12)
            lines = random_lines(chance, leaves, count)
            most = min(leaves + count, chance.randint(0, 3))
            outputs = tuple(chance.randrange(leaves + count) for _ in range(most))
            self.assertEqual(needed(leaves, lines, outputs), by_definition(leaves, lines, outputs))

    def test_arguments_are_unchanged(self):
        lines, outputs = list(self.LINES), [6, 7]
        before = copy.deepcopy((lines, outputs))
        needed(2, lines, outputs)
        self.assertEqual((lines, outputs), before)


class Ordinary(unittest.TestCase):
    def test_values_and_operations(self):
        a, b = ((1, 2),), ((10,), (20,))
        lines = (("turn", (), (1,)), ("add", (), (0, 2)), ("scale", (1,), (3,)))
        self.assertEqual(
            run_lines((a, b), lines, (4, 3)),
            (
                (((6, 11),), ((11, 22),)),
                (
                    ("turn", (), (b,)),
                    ("add", (), (a, ((10, 20),))),
                    ("scale", (1,), (((11, 22),),)),
                ),
            ),
        )

    def test_no_lines(self):
        self.assertEqual(run_lines((cell(4), cell(5)), (), (1, 0)), ((cell(5), cell(4)), ()))
        self.assertEqual(run_lines((), (), ()), ((), ()))

    def test_no_outputs(self):
        lines = (("add", (), (0, 0)), ("fill", (2, 2, 1), ()))
        self.assertEqual(run_lines((cell(4),), lines, ()), ((), ()))

    def test_outputs_that_are_leaves(self):
        lines = (("add", (), (0, 1)),)
        given = (cell(4), cell(5))
        self.assertEqual(run_lines(given, lines, (1, 0, 1)), ((cell(5), cell(4), cell(5)), ()))
        self.assertEqual(
            run_lines(given, lines, (0, 2)),
            ((cell(4), cell(9)), (("add", (), given),)),
        )

    def test_equal_outputs_execute_a_line_once(self):
        lines = (("add", (), (0, 1)),)
        given = (cell(4), cell(5))
        self.assertEqual(run_lines(given, lines, (2, 2)), ((cell(9), cell(9)), (("add", (), given),)))

    def test_an_output_that_only_the_last_line_makes(self):
        lines = (("times", (), (0, 0)), ("turn", (), (0,)), ("sub", (), (1, 0)))
        self.assertEqual(
            run_lines((cell(4),), lines, (3,)),
            ((cell(12),), (("times", (), (cell(4), cell(4))), ("sub", (), (cell(16), cell(4))))),
        )

    def test_a_line_that_is_applied_twice_to_the_same_value(self):
        lines = (("add", (), (0, 0)), ("times", (), (1, 1)))
        self.assertEqual(
            run_lines((cell(3),), lines, (2,)),
            ((cell(36),), (("add", (), (cell(3), cell(3))), ("times", (), (cell(6), cell(6))))),
        )

    def test_equal_operations_are_asked_each_time(self):
        lines = (("turn", (), (0,)), ("turn", (), (0,)), ("turn", (), (1,)), ("add", (), (2, 3)))
        given = cell(3)
        self.assertEqual(
            run_lines((given,), lines, (4,)),
            ((cell(6),), (("turn", (), (given,)),) * 3 + (("add", (), (given, given)),)),
        )

    def test_lines_without_values(self):
        lines = (("fill", (1, 2, 7), ()), ("fill", (1, 2, 1), ()), ("sub", (), (0, 1)))
        self.assertEqual(
            run_lines((), lines, (2,)),
            ((((6, 6),),), (("fill", (1, 2, 7), ()), ("fill", (1, 2, 1), ()), ("sub", (), (((7, 7),), ((1, 1),))))),
        )

    def test_lines_that_are_not_needed_are_not_asked(self):
        lines = (
            ("stretch", (1000,), (0,)),  # would fault
            ("turn", (), (0,)),
            ("add", (), (1, 1)),         # hangs on what faults
            ("total", (), (0,)),
            ("product", (), (0, 0)),     # does not fit
            ("positive", (), (2,)),
        )
        given = ((1, MOST),)
        self.assertEqual(
            run_lines((given,), lines, (6,)),
            ((((1,), (MOST,)),), (("turn", (), (given,)), ("positive", (), (((1,), (MOST,)),)))),
        )


class Faults(unittest.TestCase):
    def chain(self, faulting):
        """Five lines, one after the other, of which the one with this index faults; others between them."""
        factors = [2] * 5
        factors[faulting] = 1000
        lines = []
        for index, factor in enumerate(factors):
            lines.append(("stretch", (factor,), (2 * index,)))
            lines.append(("add", (), (2 * index + 1, 2 * index + 1)))
        return tuple(lines[:-1])

    def test_the_operations_up_to_the_fault(self):
        for faulting in range(5):
            # Every second line is needed by the next one, so all of them are.
            value, expected = 10000, []
            for index in range(faulting):
                expected.append(("stretch", (2,), (cell(value),)))
                expected.append(("add", (), (cell(2 * value), cell(2 * value))))
                value *= 4
            expected.append(("stretch", (1000,), (cell(value),)))
            self.assertEqual(
                run_lines((cell(10000),), self.chain(faulting), (9,)), (None, tuple(expected))
            )

    def test_a_fault_leaves_out_what_is_not_needed_before_it(self):
        lines = (
            ("stretch", (1000,), (0,)),
            ("turn", (), (0,)),
            ("turn", (), (0,)),
            ("add", (), (3, 0)),
            ("turn", (), (4,)),
        )
        big = cell(5000000)
        self.assertEqual(
            run_lines((big,), lines, (5, 3)),
            (None, (("turn", (), (big,)), ("add", (), (big, big)))),
        )

    def test_the_first_fault_alone_is_asked(self):
        big = cell(MOST)
        lines = (("add", (), (0, 0)), ("times", (), (0, 0)), ("total", (), (0,)))
        for outputs in ((1, 2), (2, 1), (3, 2, 1)):
            self.assertEqual(run_lines((big,), lines, outputs), (None, (("add", (), (big, big)),)))

    def test_the_last_needed_line_faults(self):
        big = cell(MOST)
        lines = (("total", (), (0,)), ("times", (), (1, 1)), ("turn", (), (0,)))
        self.assertEqual(
            run_lines((big,), lines, (2, 0, 1)),
            (None, (("total", (), (big,)), ("times", (), (big, big)))),
        )

    def test_a_fault_gives_none_though_other_outputs_are_known(self):
        self.assertEqual(
            run_lines((cell(MOST),), (("add", (), (0, 0)),), (0, 1)),
            (None, (("add", (), (cell(MOST), cell(MOST))),)),
        )

    def test_a_fault_that_no_output_needs(self):
        lines = (("add", (), (0, 0)), ("turn", (), (0,)))
        self.assertEqual(run_lines((cell(MOST),), lines, (0,)), ((cell(MOST),), ()))
        self.assertEqual(
            run_lines((cell(MOST),), lines, (2,)), ((cell(MOST),), (("turn", (), (cell(MOST),)),))
        )

    def test_matrices_that_do_not_fit_fault(self):
        given = (((1, 2),), cell(3))
        self.assertEqual(
            run_lines(given, (("add", (), (0, 1)), ("turn", (), (2,))), (3,)), (None, (("add", (), given),))
        )


class Everything(unittest.TestCase):
    def test_random_lines(self):
        chance = random.Random(12)
        faults = 0
        for _ in range(300):
            leaves, count = chance.randint(0, 3), chance.randint(1, 10)
            lines = random_lines(chance, leaves, count)
            given = tuple(cell(chance.randint(-99999, 99999)) for _ in range(leaves))
            outputs = tuple(chance.randrange(leaves + count) for _ in range(chance.randint(0, 3)))
            # All lines are executed here, and the needed ones are picked afterwards.
            known, operations = list(given), []
            for kind, numbers, values in lines:
                operations.append((kind, numbers, tuple(known[value] for value in values)))
                known.append(None if None in operations[-1][2] else operate(*operations[-1]))
            asked, fault = [], False
            for index in by_definition(leaves, lines, outputs):
                if not fault:
                    asked.append(operations[index])
                    fault = known[leaves + index] is None
            faults += fault
            expected = None if fault else tuple(known[value] for value in outputs)
            self.assertEqual(run_lines(given, lines, outputs), (expected, tuple(asked)))
        self.assertGreater(faults, 30)
        self.assertLess(faults, 200)

    def test_arguments_are_unchanged(self):
        arguments = ([cell(3), cell(MOST)], [("add", (), (0, 0)), ("add", (), (1, 1))], [2, 3])
        before = copy.deepcopy(arguments)
        run_lines(*arguments)
        self.assertEqual(arguments, before)

    def test_tuples_all_through(self):
        for outputs in ((1,), (2,)):
            found, asked = run_lines((cell(MOST),), (("turn", (), (0,)), ("add", (), (0, 0))), outputs)
            self.assertIn(type(found), (tuple, type(None)))
            self.assertIs(type(asked), tuple)
            for operation in asked:
                self.assertEqual([type(part) for part in operation], [str, tuple, tuple])

    def test_defined_in_their_file(self):
        for function in (module.needed, module.run_lines):
            self.assertEqual(function.__module__, "lasttext.lines")


if __name__ == "__main__":
    unittest.main()
