"""Sections 6 and 7: model programs and the shapes of their values."""

import copy
import unittest

from lasttext import programs
from lasttext.matrices import operate
from lasttext.programs import shapes

# A value of each kind of step, and what each one's shape is.
ALL_KINDS = (
    (("a", 2, 3), ("b", 2, 3), ("c", 3, 4), ("k", 1, 1)),
    (("x", 6, 2), ("ids", 5, 1)),
    (
        ("s0", "add", (0, 1), ()),
        ("s1", "sub", (6, 1), ()),
        ("s2", "times", (7, 6), ()),
        ("s3", "product", (8, 2), ()),
        ("s4", "turn", (9,), ()),
        ("s5", "positive", (10,), ()),
        ("s6", "total", (11,), ()),
        ("s7", "spread", (12,), (5, 6)),
        ("s8", "stretch", (13,), (-1000,)),
        ("s9", "pick", (2, 5), ()),
        ("s10", "product", (4, 0), ()),
        ("s11", "total", (16,), ()),
    ),
    12,
)
ALL_SHAPES = (
    (2, 3), (2, 3), (3, 4), (1, 1),
    (6, 2), (5, 1),
    (2, 3), (2, 3), (2, 3), (2, 4), (4, 2), (4, 2), (1, 1), (5, 6), (5, 6), (5, 4), (6, 3), (1, 1),
)


def one_step(params, inputs, kind, values, numbers):
    return (params, inputs, (("y", kind, values, numbers),), 0)


class Shapes(unittest.TestCase):
    def test_each_kind_of_step(self):
        self.assertEqual(shapes(ALL_KINDS), ALL_SHAPES)

    def test_tuples_all_through(self):
        found = shapes(ALL_KINDS)
        self.assertIs(type(found), tuple)
        for shape in found:
            self.assertIs(type(shape), tuple)

    def test_params_alone(self):
        self.assertEqual(shapes(((("w", 1, 1),), (), (), 0)), ((1, 1),))

    def test_params_and_inputs_stand_in_front(self):
        program = ((("w", 1, 1), ("v", 6, 2)), (("x", 3, 4),), (("y", "turn", (2,), ()),), 0)
        self.assertEqual(shapes(program), ((1, 1), (6, 2), (3, 4), (4, 3)))

    def test_single_steps(self):
        params = (("k", 1, 1), ("a", 4, 2), ("b", 2, 6))
        inputs = (("ids", 3, 1), ("x", 2, 6))
        for kind, values, numbers, expected in (
            ("add", (2, 4), (), (2, 6)),
            ("sub", (4, 2), (), (2, 6)),
            ("times", (1, 1), (), (4, 2)),
            ("product", (1, 2), (), (4, 6)),
            ("turn", (1,), (), (2, 4)),
            ("positive", (1,), (), (4, 2)),
            ("total", (1,), (), (1, 1)),
            ("spread", (0,), (6, 1), (6, 1)),
            ("stretch", (2,), (0,), (2, 6)),
            ("pick", (1, 3), (), (3, 2)),
            ("pick", (4, 3), (), (3, 6)),
            ("pick", (3, 3), (), (3, 1)),
        ):
            program = one_step(params, inputs, kind, values, numbers)
            self.assertEqual(shapes(program)[-1], expected, (kind, values))

    def test_shapes_are_those_of_the_results(self):
        params, inputs, steps, _ = ALL_KINDS
        known = [operate("fill", (rows, columns, 0), ()) for _, rows, columns in params + inputs]
        for _, kind, values, numbers in steps:
            known.append(operate(kind, numbers, tuple(known[value] for value in values)))
        found = tuple((len(matrix), len(matrix[0])) for matrix in known)
        self.assertEqual(found, shapes(ALL_KINDS))

    def test_the_argument_is_unchanged(self):
        before = copy.deepcopy(ALL_KINDS)
        shapes(ALL_KINDS)
        self.assertEqual(ALL_KINDS, before)
        self.assertEqual(shapes(ALL_KINDS), shapes(ALL_KINDS))

    def test_defined_in_its_file(self):
        self.assertEqual(programs.shapes.__module__, "lasttext.programs")


if __name__ == "__main__":
    unittest.main()
