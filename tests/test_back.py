"""Sections 13 to 15: the way forth, the plan of a program, and gradients; the plan of section 45."""

import copy
import random
import unittest

from lasttext import back
from lasttext.back import forward, gradients, plan
from lasttext.lines import needed, run_lines
from lasttext.matrices import operate
from lasttext.programs import shapes
from lasttext.programtexts import read_program
from tests.test_programs import ALL_KINDS
from tests.test_programtexts import random_program

MOST = 9999999
EXAMPLE = "param w 1 1\ninput x 1 1\ny = times w x\nloss y\n"
ONE = ("fill", (1, 1, 1), ())


def cell(entry):
    return ((entry,),)


def matrix(rows, columns, chance, most):
    return tuple(tuple(chance.randint(-most, most) for _ in range(columns)) for _ in range(rows))


def deep_program(chance):
    """A random program whose loss is the last one of its values that can be it."""
    program = random_program(chance)
    cells = [value for value, shape in enumerate(shapes(program)) if shape == (1, 1)]
    return (*program[:3], cells[-1])


def random_leaves(program, chance, most):
    """Random weights and inputs; inputs of small entries name rows."""
    params, inputs = program[:2]
    weights = tuple(matrix(rows, columns, chance, most) for _, rows, columns in params)
    given = tuple(
        tuple(tuple(chance.randint(0, 1) for _ in range(columns)) for _ in range(rows))
        if chance.random() < 0.7 else matrix(rows, columns, chance, most)
        for _, rows, columns in inputs
    )
    return weights, given


class Forward(unittest.TestCase):
    def check(self, text, weights, inputs, loss, values):
        self.assertEqual(forward(read_program(text), weights, inputs), (loss, values))

    def test_each_kind_of_step(self):
        self.check(
            "param a 2 2\nparam k 1 1\ninput x 2 2\ninput ids 3 1\n"
            "s0 = add a x\ns1 = sub a x\ns2 = times a x\ns3 = product a x\ns4 = turn a\ns5 = positive s1\n"
            "s6 = total s3\ns7 = spread k 1 3\ns8 = stretch a -3\ns9 = pick a ids\nloss s6\n",
            (((1, 2), (3, 4)), cell(-7)),
            (((5, 1), (-1, 2)), ((1,), (0,), (1,))),
            3 + 5 + 11 + 11,
            (
                ((6, 3), (2, 6)),
                ((-4, 1), (4, 2)),
                ((5, 2), (-3, 8)),
                ((3, 5), (11, 11)),
                ((1, 3), (2, 4)),
                ((0, 1), (4, 2)),
                cell(30),
                ((-7, -7, -7),),
                ((-3, -6), (-9, -12)),
                ((3, 4), (1, 2), (3, 4)),
            ),
        )

    def test_a_fault_and_the_steps_that_need_it(self):
        text = (
            "param w 1 1\ninput x 1 1\na = add w x\nb = stretch w 1000\nc = add b a\nd = turn c\n"
            "e = times a a\nf = sub e d\ng = add e w\nloss {}\n"
        )
        values = (cell(10003), None, None, None, None, None, None)
        self.check(text.format("a"), (cell(10000),), (cell(3),), 10003, values)
        for name in "bcdefg":
            self.check(text.format(name), (cell(10000),), (cell(3),), None, values)
        # With 3000 the product of a and a is within the bounds, and with 10 nothing faults.
        values = (cell(3003), cell(3000000), cell(3003003), cell(3003003), cell(9018009), cell(6015006), cell(9021009))
        self.check(text.format("f"), (cell(3000),), (cell(3),), 6015006, values)

    def test_steps_that_do_not_need_the_fault_have_values(self):
        text = (
            "param w 1 1\nparam v 1 1\na = stretch w 1000\nb = add v v\nc = times b b\n"
            "d = sub c a\ne = sub c b\nloss {}\n"
        )
        values = (None, cell(10), cell(100), None, cell(90))
        for name, loss in (("a", None), ("b", 10), ("c", 100), ("d", None), ("e", 90), ("w", MOST), ("v", 5)):
            self.check(text.format(name), (cell(MOST), cell(5)), (), loss, values)

    def test_the_second_value_may_be_the_one_that_faulted(self):
        text = "param w 1 1\na = stretch w 1000\nb = add w a\nc = add a w\nloss w\n"
        self.check(text, (cell(-MOST),), (), -MOST, (None, None, None))

    def test_rows_that_do_not_exist(self):
        text = "param t 2 1\ninput ids 1 1\ny = pick t ids\nloss y\n"
        table = ((5,), (6,))
        for row, loss in ((0, 5), (1, 6), (2, None), (-1, None)):
            value = None if loss is None else cell(loss)
            self.check(text, (table,), (cell(row),), loss, (value,))

    def test_the_loss_is_an_integer(self):
        loss, values = forward(read_program(EXAMPLE), (cell(2),), (cell(3),))
        self.assertEqual((loss, type(loss)), (6, int))
        self.assertEqual(values, (cell(6),))

    def test_the_loss_may_be_a_param_or_an_input(self):
        text = "param w 1 1\ninput x 1 1\ny = times w x\nloss {}\n"
        self.check(text.format("w"), (cell(2),), (cell(-3),), 2, (cell(-6),))
        self.check(text.format("x"), (cell(2),), (cell(-3),), -3, (cell(-6),))
        self.check(text.format("x"), (cell(MOST),), (cell(-3),), -3, (None,))

    def test_no_steps(self):
        self.check("param w 1 1\nloss w\n", (cell(0),), (), 0, ())
        self.check("param v 2 2\ninput x 1 1\nloss x\n", (((1, 2), (3, 4)),), (cell(9),), 9, ())

    def test_arguments_are_unchanged(self):
        arguments = [read_program(EXAMPLE), [cell(2)], [cell(3)]]
        before = copy.deepcopy(arguments)
        found = forward(*arguments)
        self.assertEqual(arguments, before)
        self.assertEqual([type(found), type(found[1])], [tuple, tuple])


class Plans(unittest.TestCase):
    def check(self, text, leaves, lines, loss, found):
        self.assertEqual(plan(read_program(text)), (leaves, lines, loss, found))

    def test_the_example(self):
        self.assertEqual(
            plan(read_program(EXAMPLE)),
            (
                2,
                (("times", (), (0, 1)), ("fill", (1, 1, 1), ()), ("times", (), (3, 1)), ("times", (), (3, 0))),
                2,
                (4,),
            ),
        )

    def two_params(self, kind, rows, *back_lines):
        """The plan of `kind` of two params with 2 rows and 3 columns, under a total."""
        self.check(
            f"param a 2 3\nparam b {rows}\ny = {kind} a b\nz = total y\nloss z\n",
            2,
            ((kind, (), (0, 1)), ("total", (), (2,)), ONE, *back_lines[:-1]),
            3,
            back_lines[-1],
        )

    def test_add(self):
        self.two_params("add", "2 3", ("spread", (2, 3), (4,)), (5, 5))

    def test_sub(self):
        self.two_params("sub", "2 3", ("spread", (2, 3), (4,)), ("stretch", (-1,), (5,)), (5, 6))

    def test_times(self):
        self.two_params(
            "times", "2 3", ("spread", (2, 3), (4,)), ("times", (), (5, 1)), ("times", (), (5, 0)), (6, 7)
        )

    def test_product(self):
        self.two_params(
            "product", "3 4",
            ("spread", (2, 4), (4,)),
            ("turn", (), (1,)), ("product", (), (5, 6)),
            ("turn", (), (0,)), ("product", (), (8, 5)),
            (7, 9),
        )

    def one_param(self, leaf, step, forth, back_lines, found):
        self.check(
            f"param a {leaf}\ny = {step}\nz = total y\nloss z\n",
            1,
            (forth, ("total", (), (1,)), ONE, *back_lines),
            2,
            (found,),
        )

    def test_turn(self):
        self.one_param(
            "2 3", "turn a", ("turn", (), (0,)), (("spread", (3, 2), (3,)), ("turn", (), (4,))), 5
        )

    def test_positive(self):
        self.one_param(
            "2 3", "positive a", ("positive", (), (0,)), (("spread", (2, 3), (3,)), ("gate", (), (0, 4))), 5
        )

    def test_total(self):
        self.one_param(
            "4 5", "total a", ("total", (), (0,)), (("spread", (1, 1), (3,)), ("spread", (4, 5), (4,))), 5
        )

    def test_spread(self):
        self.one_param(
            "1 1", "spread a 4 5", ("spread", (4, 5), (0,)), (("spread", (4, 5), (3,)), ("total", (), (4,))), 5
        )

    def test_stretch(self):
        for factor in (-1000, -1, 0, 7):
            self.one_param(
                "2 3", f"stretch a {factor}", ("stretch", (factor,), (0,)),
                (("spread", (2, 3), (3,)), ("stretch", (factor,), (4,))), 5,
            )

    def test_pick(self):
        self.check(
            "param a 4 2\ninput ids 3 1\ny = pick a ids\nz = total y\nloss z\n",
            2,
            (("pick", (), (0, 1)), ("total", (), (2,)), ONE, ("spread", (3, 2), (4,)), ("place", (4,), (1, 5))),
            3,
            (6,),
        )

    def test_pick_from_an_input_with_the_same_input(self):
        # The input gets something as the first value alone, once.
        self.check(
            "param w 1 1\ninput ids 2 1\ny = pick ids ids\nz = total y\nu = add z w\nloss u\n",
            2,
            (
                ("pick", (), (1, 1)), ("total", (), (2,)), ("add", (), (3, 0)), ONE,
                ("spread", (2, 1), (5,)), ("place", (2,), (1, 6)),
            ),
            4,
            (5,),
        )

    def test_the_same_value_twice(self):
        for kind, lines, found in (
            ("add", (("add", (), (2, 2)),), 3),
            ("sub", (("stretch", (-1,), (2,)), ("add", (), (2, 3))), 4),
            ("times", (("times", (), (2, 0)), ("times", (), (2, 0)), ("add", (), (3, 4))), 5),
            (
                "product",
                (
                    ("turn", (), (0,)), ("product", (), (2, 3)),
                    ("turn", (), (0,)), ("product", (), (5, 2)), ("add", (), (4, 6)),
                ),
                7,
            ),
        ):
            self.check(
                f"param w 1 1\ny = {kind} w w\nloss y\n", 1, ((kind, (), (0, 0)), ONE, *lines), 1, (found,)
            )

    def test_a_value_that_gets_something_twice_and_three_times(self):
        self.check(
            "param w 1 1\nparam v 1 1\na = times w v\nb = times a w\nc = times b w\nloss c\n",
            2,
            (
                ("times", (), (0, 1)), ("times", (), (2, 0)), ("times", (), (3, 0)), ONE,
                ("times", (), (5, 0)), ("times", (), (5, 3)),
                # w gets something for the second time, as a second value.
                ("times", (), (6, 0)), ("times", (), (6, 2)), ("add", (), (7, 9)),
                # and for the third time, as a first value: the sum stands before the lines for v.
                ("times", (), (8, 1)), ("add", (), (10, 11)), ("times", (), (8, 0)),
            ),
            4,
            (12, 13),
        )

    def test_a_plain_g_is_added_as_it_is(self):
        self.check(
            "param w 1 1\nparam v 1 1\na = add w v\nb = sub w a\nc = add b w\nloss c\n",
            2,
            (
                ("add", (), (0, 1)), ("sub", (), (0, 2)), ("add", (), (3, 0)), ONE,
                # c: b and w get 5. b: w gets 5 again, a gets minus 5. a: w gets that, too.
                ("add", (), (5, 5)), ("stretch", (-1,), (5,)), ("add", (), (6, 7)),
            ),
            4,
            (8, 7),
        )

    def test_a_step_that_gets_something_twice_goes_on_with_the_sum(self):
        self.check(
            "param w 1 1\na = turn w\nb = product a a\nc = total b\nloss c\n",
            1,
            (
                ("turn", (), (0,)), ("product", (), (1, 1)), ("total", (), (2,)), ONE,
                ("spread", (1, 1), (4,)),
                ("turn", (), (1,)), ("product", (), (5, 6)), ("turn", (), (1,)), ("product", (), (8, 5)),
                ("add", (), (7, 9)),
                ("turn", (), (10,)),
            ),
            3,
            (11,),
        )

    def test_steps_that_get_nothing(self):
        self.check(
            "param w 1 1\nu = times w w\ny = turn w\nv = times u y\nloss y\n",
            1,
            (("times", (), (0, 0)), ("turn", (), (0,)), ("times", (), (1, 2)), ONE, ("turn", (), (4,))),
            2,
            (5,),
        )

    def test_params_that_get_nothing(self):
        self.check(
            "param a 2 3\nparam w 1 1\nparam b 6 1\nparam v 1 1\nparam c 1 6\ny = times w v\nloss y\n",
            5,
            (
                ("times", (), (1, 3)), ONE, ("times", (), (6, 3)), ("times", (), (6, 1)),
                ("fill", (2, 3, 0), ()), ("fill", (6, 1, 0), ()), ("fill", (1, 6, 0), ()),
            ),
            5,
            (9, 7, 10, 8, 11),
        )

    def test_the_loss_is_a_param(self):
        self.check("param w 1 1\nloss w\n", 1, (ONE,), 0, (1,))
        self.check(
            "param v 2 1\nparam w 1 1\ny = turn w\nloss w\n",
            2,
            (("turn", (), (1,)), ONE, ("fill", (2, 1, 0), ())),
            1,
            (4, 3),
        )

    def test_the_loss_is_an_input(self):
        self.check(
            "param w 3 2\ninput x 1 1\nloss x\n", 2, (ONE, ("fill", (3, 2, 0), ())), 1, (3,)
        )

    def test_inputs_get_something(self):
        self.check(
            "param w 1 1\ninput x 1 1\ny = times x x\nz = times y w\nloss z\n",
            2,
            (
                ("times", (), (1, 1)), ("times", (), (2, 0)), ONE,
                ("times", (), (4, 0)), ("times", (), (4, 2)),
                ("times", (), (5, 1)), ("times", (), (5, 1)), ("add", (), (7, 8)),
            ),
            3,
            (6,),
        )

    def test_the_fill_stands_behind_all_steps(self):
        leaves, lines, loss, found = plan(read_program("param w 1 1\na = turn w\nb = turn a\nc = turn b\nloss a\n"))
        self.assertEqual(lines[3], ONE)
        self.assertEqual((leaves, len(lines), loss, found), (1, 5, 1, (5,)))

    def test_the_argument_is_unchanged_and_tuples_come_back(self):
        before = copy.deepcopy(ALL_KINDS)
        found = plan(ALL_KINDS)
        self.assertEqual(ALL_KINDS, before)
        self.assertEqual(plan(ALL_KINDS), found)
        self.assertEqual([type(part) for part in found], [int, tuple, int, tuple])
        for line in found[1]:
            self.assertEqual([type(part) for part in (line, *line)], [tuple, str, tuple, tuple])

    def test_random_programs(self):
        chance = random.Random(14)
        for _ in range(200):
            program = deep_program(chance)
            params, inputs, steps, loss_value = program
            leaves, lines, loss, found = plan(program)
            self.assertEqual((leaves, loss), (len(params) + len(inputs), loss_value))
            self.assertEqual(len(found), len(params))
            self.assertEqual(lines[:len(steps)], tuple(step[1:2] + step[3:] + step[2:3] for step in steps))
            self.assertEqual(lines[len(steps)], ONE)
            for index, (_, _, values) in enumerate(lines):
                self.assertTrue(all(value < leaves + index for value in values))
            # On zeros nothing faults, so that all shapes fit.
            zeros = tuple(operate("fill", (*shape, 0), ()) for shape in shapes(program)[:leaves])
            values, _ = run_lines(zeros, lines, tuple(range(leaves + len(lines))))
            for param, value in zip(params, found):
                self.assertEqual((len(values[value]), len(values[value][0])), param[1:])


class Gradients(unittest.TestCase):
    def check(self, text, weights, inputs, expected):
        self.assertEqual(gradients(read_program(text), weights, inputs), expected)

    def test_the_example(self):
        self.check(EXAMPLE, (cell(2),), (cell(3),), (6, (cell(3),)))
        self.check(EXAMPLE, (cell(0),), (cell(3),), (0, (cell(3),)))

    def test_a_square_of_what_is_off(self):
        self.check(
            "param w 1 2\nparam c 1 1\ninput x 2 1\ninput t 1 1\n"
            "y = product w x\nz = add y c\nd = sub z t\ne = times d d\nloss e\n",
            (((3, -2),), cell(4)),
            (((5,), (7,)), cell(2)),
            (9, (((30, 42),), cell(6))),
        )

    def test_each_kind_of_step(self):
        self.check(
            "param a 2 2\nparam b 2 2\ninput ids 3 1\ns0 = add a b\ns1 = product s0 b\ns2 = turn s1\n"
            "s3 = positive s2\ns4 = pick s3 ids\ns5 = total s4\ns6 = spread s5 2 2\ns7 = stretch s6 -3\n"
            "s8 = times s7 a\ns9 = sub s8 b\ns10 = total s9\nloss s10\n",
            (((1, 0), (2, 1)), ((0, 1), (-1, 1))),
            (((1,), (0,), (1,)),),
            GRADIENTS_OF_EACH_KIND,
        )

    def test_params_that_nothing_hangs_on(self):
        self.check(
            "param v 2 3\nparam w 1 1\nloss w\n", (((1, 2, 3), (4, 5, 6)), cell(-8)), (),
            (-8, (((0, 0, 0), (0, 0, 0)), cell(1))),
        )
        self.check("param w 1 2\ninput x 1 1\nloss x\n", (((1, 2),),), (cell(5),), (5, (((0, 0),),)))

    def test_a_step_that_is_not_needed_may_fault(self):
        text = "param w 1 1\nu = stretch w 1000\nv = add u u\ny = turn w\nloss {}\n"
        self.check(text.format("y"), (cell(MOST),), (), (MOST, (cell(1),)))
        self.check(text.format("u"), (cell(MOST),), (), None)
        self.check(text.format("v"), (cell(MOST),), (), None)

    def test_what_inputs_get_may_fault(self):
        # Three times a factor of 1000: the way back to the one at the beginning faults.
        steps = "a = stretch {} 1000\nb = stretch a 1000\nc = stretch b 1000\nd = add c w\nloss d\n"
        text = "param w 1 1\nparam v 1 1\ninput x 1 1\n" + steps
        self.check(text.format("x"), (cell(7), cell(0)), (cell(0),), (7, (cell(1), cell(0))))
        # For a param it matters, though the loss does not fault.
        self.check(text.format("v"), (cell(7), cell(0)), (cell(0),), None)
        self.assertEqual(forward(read_program(text.format("v")), (cell(7), cell(0)), (cell(0),))[0], 7)

    def test_a_fault_of_the_loss(self):
        self.check(EXAMPLE, (cell(MOST),), (cell(2),), None)
        self.check(EXAMPLE, (cell(MOST),), (cell(-1),), (-MOST, (cell(-1),)))

    def test_a_fault_in_a_sum_of_what_a_param_gets(self):
        text = "param w 1 1\ninput x 1 1\na = times w x\nb = times w x\nc = add a b\nloss c\n"
        self.check(text, (cell(0),), (cell(5000000),), None)
        self.check(text, (cell(0),), (cell(4999999),), (0, (cell(9999998),)))

    def test_rows_that_do_not_exist(self):
        text = "param t 2 1\ninput ids 2 1\ny = pick t ids\nz = total y\nloss z\n"
        table = ((5,), (6,))
        self.check(text, (table,), (((1,), (1,)),), (12, (((0,), (2,)),)))
        self.check(text, (table,), (((1,), (2,)),), None)
        self.check(text, (table,), (((-1,), (1,)),), None)

    def test_the_values_of_the_needed_lines(self):
        chance = random.Random(15)
        faults = 0
        for _ in range(400):
            program = deep_program(chance)
            weights, inputs = random_leaves(program, chance, chance.choice((2, 30, 3000, 900000)))
            leaves, lines, loss, found = plan(program)
            known = list(weights + inputs)
            for kind, numbers, values in lines:
                matrices = tuple(known[value] for value in values)
                known.append(None if None in matrices else operate(kind, numbers, matrices))
            wanted = needed(leaves, lines, (loss, *found))
            expected = (known[loss] and known[loss][0][0], tuple(known[value] for value in found))
            if None in [known[leaves + index] for index in wanted]:
                expected = None
                faults += 1
            self.assertEqual(gradients(program, weights, inputs), expected)
        self.assertGreater(faults, 40)
        self.assertLess(faults, 300)

    def test_arguments_are_unchanged(self):
        arguments = [read_program(EXAMPLE), [cell(2)], [cell(3)]]
        before = copy.deepcopy(arguments)
        loss, found = gradients(*arguments)
        self.assertEqual(arguments, before)
        self.assertEqual([type(loss), type(found)], [int, tuple])

    def test_defined_in_their_file(self):
        for function in (back.forward, back.plan, back.gradients, back.rates):
            self.assertEqual(function.__module__, "lasttext.back")


# By hand: s0 = ((1, 1), (1, 2)); s1 = ((-1, 2), (-2, 3)); s3 = ((0, 0), (2, 3)); s5 = 10; s7 is -30 all over.
# What is got: s7 gets a, so s6 gets -3 a and s5 gets -12; the rows 1, 0, 1 of s3 get -12 2 times, once, 2 times.
# The gate leaves the second row, -24 -24; turned it is s1's ((0, -24), (0, -24)).
# s0 gets that times b turned: ((-24, -24), (-24, -24)); b gets s0 turned times that: ((0, -48), (0, -72)).
GRADIENTS_OF_EACH_KIND = (
    -30 * 4 - 1,
    (
        ((-30 - 24, -30 - 24), (-30 - 24, -30 - 24)),
        ((-1 - 24, -1 - 48 - 24), (-1 - 24, -1 - 72 - 24)),
    ),
)


if __name__ == "__main__":
    unittest.main()
