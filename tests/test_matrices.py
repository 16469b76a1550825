"""Sections 3 to 5: matrices, the table of operations, and `operate`."""

import copy
import random
import unittest

from lasttext import matrices
from lasttext.matrices import operate

A = ((1, -2, 3), (0, 5, -6))
B = ((10, 20, 30), (40, 50, 60))
ROW = ((1, 2, 3),)
COLUMN = ((1,), (2,))
CELL = ((7,),)
MOST = 9999999

KINDS = {
    "add": (2, ()),
    "sub": (2, ()),
    "times": (2, ()),
    "product": (2, ()),
    "turn": (1, ()),
    "positive": (1, ()),
    "gate": (2, ()),
    "total": (1, ()),
    "spread": (1, (2, 2)),
    "stretch": (1, (3,)),
    "scale": (1, (1,)),
    "pick": (2, ()),
    "place": (2, (2,)),
    "fill": (0, (2, 2, 1)),
}


def cell(entry):
    return ((entry,),)


class OrdinaryInputs(unittest.TestCase):
    def check(self, kind, numbers, given, expected):
        self.assertEqual(operate(kind, numbers, given), expected)

    def test_add(self):
        self.check("add", (), (A, B), ((11, 18, 33), (40, 55, 54)))

    def test_sub(self):
        self.check("sub", (), (A, B), ((-9, -22, -27), (-40, -45, -66)))

    def test_times(self):
        self.check("times", (), (A, B), ((10, -40, 90), (0, 250, -360)))

    def test_product(self):
        right = ((1, 0), (2, 1), (0, -1))
        self.check("product", (), (A, right), ((-3, -5), (10, 11)))
        self.check("product", (), (right, A), ((1, -2, 3), (2, 1, 0), (0, -5, 6)))
        self.check("product", (), (ROW, ((1,), (1,), (1,))), ((6,),))
        self.check("product", (), (COLUMN, ROW), ((1, 2, 3), (2, 4, 6)))

    def test_turn(self):
        self.check("turn", (), (A,), ((1, 0), (-2, 5), (3, -6)))
        self.check("turn", (), (ROW,), ((1,), (2,), (3,)))
        self.check("turn", (), (COLUMN,), ((1, 2),))
        self.check("turn", (), (CELL,), CELL)

    def test_positive(self):
        self.check("positive", (), (A,), ((1, 0, 3), (0, 5, 0)))
        self.check("positive", (), (((-1, 0, 1),),), ((0, 0, 1),))

    def test_gate(self):
        self.check("gate", (), (A, B), ((10, 0, 30), (0, 50, 0)))
        self.check("gate", (), (((-1, 0, 1),), ((5, 6, -7),)), ((0, 0, -7),))

    def test_total(self):
        self.check("total", (), (A,), cell(1))
        self.check("total", (), (B,), cell(210))
        self.check("total", (), (CELL,), CELL)

    def test_spread(self):
        self.check("spread", (2, 3), (CELL,), ((7, 7, 7), (7, 7, 7)))
        self.check("spread", (1, 1), (CELL,), CELL)
        self.check("spread", (6, 1), (CELL,), ((7,),) * 6)
        self.check("spread", (1, 6), (CELL,), ((7,) * 6,))

    def test_stretch(self):
        self.check("stretch", (3,), (A,), ((3, -6, 9), (0, 15, -18)))
        self.check("stretch", (-1,), (A,), ((-1, 2, -3), (0, -5, 6)))
        self.check("stretch", (0,), (A,), ((0, 0, 0), (0, 0, 0)))
        self.check("stretch", (1000,), (ROW,), ((1000, 2000, 3000),))
        self.check("stretch", (-1000,), (ROW,), ((-1000, -2000, -3000),))

    def test_scale(self):
        self.check("scale", (1,), (((0, 1, 2, 3, 4),),), ((0, 1, 1, 2, 2),))
        self.check("scale", (1,), (((-1, -2, -3, -4, -5),),), ((0, -1, -1, -2, -2),))
        self.check("scale", (2,), (((1, 2, 5, 6, 7, 10),),), ((0, 1, 1, 2, 2, 3),))
        self.check("scale", (2,), (((-1, -2, -3, -5, -6, -7),),), ((0, 0, -1, -1, -1, -2),))
        self.check("scale", (10,), (((511, 512, -512, -513),),), ((0, 1, 0, -1),))
        self.check("scale", (20,), (((524287, 524288, -524288, -524289),),), ((0, 1, 0, -1),))
        self.check("scale", (20,), (((MOST, -MOST),),), ((10, -10),))

    def test_pick(self):
        ids = ((1,), (0,), (1,))
        self.check("pick", (), (A, ids), (A[1], A[0], A[1]))
        self.check("pick", (), (A, cell(0)), (A[0],))
        self.check("pick", (), (COLUMN, ids), ((2,), (1,), (2,)))

    def test_place(self):
        self.check("place", (2,), (((1,), (0,)), A), (A[1], A[0]))
        self.check("place", (1,), (cell(0), ROW), ROW)
        self.check("place", (3,), (((2,), (2,)), A), ((0, 0, 0), (0, 0, 0), (1, 3, -3)))

    def test_fill(self):
        self.check("fill", (2, 3, -4), (), ((-4, -4, -4), (-4, -4, -4)))
        self.check("fill", (1, 1, 0), (), cell(0))
        self.check("fill", (6, 1, 5), (), ((5,),) * 6)

    def test_results_are_tuples_all_through(self):
        for kind, (count, numbers) in KINDS.items():
            given = (cell(0), cell(0))[:count]
            result = operate(kind, numbers, given)
            self.assertIs(type(result), tuple, kind)
            for row in result:
                self.assertIs(type(row), tuple, kind)
                for entry in row:
                    self.assertIs(type(entry), int, kind)


class Bounds(unittest.TestCase):
    def test_result_at_and_over_the_bounds(self):
        for most in (MOST, -MOST):
            over = most + (1 if most > 0 else -1)
            step = over - most
            self.assertEqual(operate("add", (), (cell(most - step), cell(step))), cell(most))
            self.assertIsNone(operate("add", (), (cell(most), cell(step))))
            self.assertEqual(operate("sub", (), (cell(most), cell(0))), cell(most))
            self.assertIsNone(operate("sub", (), (cell(most), cell(-step))))
            self.assertEqual(operate("times", (), (cell(most), cell(1))), cell(most))
            self.assertEqual(operate("stretch", (-1,), (cell(most),)), cell(-most))

    def test_ten_million_faults_in_each_kind_that_can_reach_it(self):
        half = 5000000
        for sign in (1, -1):
            self.assertIsNone(operate("times", (), (cell(sign * half), cell(2))))
            self.assertIsNone(operate("product", (), (((half, half),), ((sign,), (sign,)))))
            self.assertIsNone(operate("total", (), (((sign * half, sign * half),),)))
            self.assertIsNone(operate("stretch", (2,), (cell(sign * half),)))
            ids = ((0,), (0,))
            self.assertIsNone(operate("place", (1,), (ids, ((sign * half,), (sign * half,)))))

    def test_the_greatest_in_each_kind_that_can_reach_it(self):
        for sign in (1, -1):
            low, high = sign * 4999999, sign * 5000000
            ids = ((0,), (0,))
            self.assertEqual(operate("times", (), (cell(sign * 3333333), cell(3))), cell(sign * MOST))
            self.assertEqual(operate("product", (), (((low, high),), ((1,), (1,)))), cell(sign * MOST))
            self.assertEqual(operate("total", (), (((low, high),),)), cell(sign * MOST))
            self.assertEqual(operate("stretch", (3,), (cell(sign * 3333333),)), cell(sign * MOST))
            self.assertEqual(operate("place", (1,), (ids, ((low,), (high,)))), cell(sign * MOST))
            self.assertEqual(operate("fill", (1, 1, sign * MOST), ()), cell(sign * MOST))
            self.assertEqual(operate("spread", (1, 1), (cell(sign * MOST),)), cell(sign * MOST))
            self.assertEqual(operate("gate", (), (cell(1), cell(sign * MOST))), cell(sign * MOST))

    def test_one_entry_over_the_bounds_is_enough(self):
        for at in range(4):
            entries = [0, 0, 0, 0]
            entries[at] = MOST
            a = (tuple(entries[:2]), tuple(entries[2:]))
            self.assertIsNone(operate("add", (), (a, ((1, 1), (1, 1)))))
            self.assertIsNone(operate("stretch", (-2,), (a,)))

    def test_sums_and_products_on_the_way_may_be_larger(self):
        big = ((MOST, MOST, -MOST, -MOST),)
        self.assertEqual(operate("total", (), (big,)), cell(0))
        turned = operate("turn", (), (((MOST, MOST, MOST, MOST),),))
        self.assertEqual(operate("product", (), (big, turned)), cell(0))
        ids = ((0,),) * 3
        column = ((MOST,), (MOST,), (-MOST,))
        self.assertEqual(operate("place", (1,), (ids, column)), cell(MOST))


class RowNumbers(unittest.TestCase):
    def test_pick_at_the_edges(self):
        for count in (1, 2, 6):
            table = tuple((row, -row) for row in range(count))
            self.assertEqual(operate("pick", (), (table, cell(0))), (table[0],))
            self.assertEqual(operate("pick", (), (table, cell(count - 1))), (table[-1],))
            for wrong in (count, count + 1, -1, -count, MOST, -MOST):
                self.assertIsNone(operate("pick", (), (table, cell(wrong))))
                self.assertIsNone(operate("pick", (), (table, ((0,), (wrong,)))))

    def test_place_at_the_edges(self):
        for count in (1, 2, 6):
            for at in (0, count - 1):
                expected = [(0, 0)] * count
                expected[at] = (3, 4)
                result = operate("place", (count,), (cell(at), ((3, 4),)))
                self.assertEqual(result, tuple(expected))
            for wrong in (count, count + 1, -1, -count):
                self.assertIsNone(operate("place", (count,), (cell(wrong), ((3, 4),))))
                both = ((0,), (wrong,))
                self.assertIsNone(operate("place", (count,), (both, ((3, 4), (5, 6)))))

    def test_place_counts_the_asked_rows_not_those_of_g(self):
        self.assertEqual(operate("place", (3,), (cell(2), ROW)), ((0, 0, 0), (0, 0, 0), ROW[0]))
        self.assertIsNone(operate("place", (1,), (((0,), (1,)), A)))

    def test_place_with_a_row_of_several_and_a_row_of_none(self):
        ids = ((3,), (1,), (3,), (3,))
        g = ((1, 10), (2, 20), (4, 40), (8, -80))
        self.assertEqual(
            operate("place", (4,), (ids, g)), ((0, 0), (2, 20), (0, 0), (13, -30))
        )


class DoesNotFit(unittest.TestCase):
    def test_wrong_number_of_matrices(self):
        for kind, (count, numbers) in KINDS.items():
            for wrong in range(4):
                result = operate(kind, numbers, (cell(0),) * wrong)
                if wrong == count:
                    self.assertIsNotNone(result, kind)
                else:
                    self.assertIsNone(result, (kind, wrong))

    def test_entry_by_entry_needs_the_same_shape(self):
        shapes = ((1, 1), (1, 2), (2, 1), (2, 2), (2, 3), (3, 2), (1, 6), (6, 1))
        for kind in ("add", "sub", "times", "gate"):
            for first in shapes:
                for second in shapes:
                    a = operate("fill", (*first, 1), ())
                    b = operate("fill", (*second, 1), ())
                    result = operate(kind, (), (a, b))
                    self.assertEqual(result is not None, first == second, (kind, first, second))

    def test_product_needs_columns_as_rows(self):
        for columns in range(1, 7):
            for rows in range(1, 7):
                a = operate("fill", (2, columns, 1), ())
                b = operate("fill", (rows, 3, 1), ())
                expected = ((rows,) * 3,) * 2 if rows == columns else None
                self.assertEqual(operate("product", (), (a, b)), expected)

    def test_spread_needs_a_cell(self):
        for wrong in (((1, 1),), ((1,), (1,)), A):
            self.assertIsNone(operate("spread", (2, 2), (wrong,)))

    def test_ids_have_one_column(self):
        for wrong in (((0, 0),), ((0, 0), (0, 0)), ((0, 0), (1, 1))):
            self.assertIsNone(operate("pick", (), (A, wrong)))
            g = ((1, 1),) * len(wrong)
            self.assertIsNone(operate("place", (2,), (wrong, g)))

    def test_place_needs_as_many_ids_as_rows(self):
        for count in (1, 3):
            self.assertIsNone(operate("place", (2,), (((0,),) * count, A)))
        self.assertIsNotNone(operate("place", (2,), (((0,),) * 2, A)))


class Everything(unittest.TestCase):
    def test_arguments_are_unchanged(self):
        for kind, (count, numbers) in KINDS.items():
            given = (((0,), (1,)), ((0,), (1,)))[:count]
            before = copy.deepcopy((numbers, given))
            operate(kind, numbers, given)
            self.assertEqual((numbers, given), before)

    def test_the_same_question_twice(self):
        ids = ((0,), (0,))
        first = operate("place", (2,), (ids, A))
        self.assertEqual(first, ((1, 3, -3), (0, 0, 0)))
        self.assertEqual(operate("place", (2,), (ids, A)), first)

    def test_scale_is_the_rounded_quotient(self):
        chance = random.Random(5)
        for _ in range(300):
            k = chance.randint(1, 20)
            entry = chance.randint(-MOST, MOST)
            expected = (entry + 2 ** (k - 1)) // 2**k
            self.assertEqual(operate("scale", (k,), (cell(entry),)), cell(expected))

    def test_defined_in_its_file(self):
        self.assertEqual(matrices.operate.__module__, "lasttext.matrices")


if __name__ == "__main__":
    unittest.main()
