"""Section 16: rates; section 43: gradients and rates agree."""

import copy
import itertools
import random
import unittest

from lasttext.back import forward, gradients, rates
from lasttext.programs import shapes
from lasttext.programtexts import read_program
from tests.test_back import cell, deep_program, matrix, random_leaves

MOST = 9999999
LEAVES = "param w 1 1\nparam v 1 1\ninput x 1 1\ninput y 1 1\n"
# The params w and v, the inputs x and y, and the directions of w and v.
W, V, X, Y, DW, DV = 3, -5, 7, 11, 2, 13


class Cases(unittest.TestCase):
    def check(self, text, weights, inputs, directions, expected):
        found = rates(read_program(text), weights, inputs, directions)
        self.assertEqual(found, expected, text)
        if found is not None:
            self.assertEqual([type(part) for part in found], [int, int])

    def of_cells(self, steps, expected, entries=(W, V, X, Y, DW, DV)):
        cells = [cell(entry) for entry in entries]
        self.check(LEAVES + steps, tuple(cells[:2]), tuple(cells[2:4]), tuple(cells[4:]), expected)


class Rates(Cases):
    def test_a_param_has_its_direction_and_an_input_none(self):
        self.of_cells("loss w\n", (W, DW))
        self.of_cells("loss v\n", (V, DV))
        self.of_cells("loss x\n", (X, 0))
        self.of_cells("a = add x y\nloss a\n", (X + Y, 0))

    def test_add(self):
        self.of_cells("a = add w v\nloss a\n", (W + V, DW + DV))
        self.of_cells("a = add w x\nloss a\n", (W + X, DW))
        self.of_cells("a = add x v\nloss a\n", (X + V, DV))
        self.of_cells("a = add w w\nloss a\n", (2 * W, 2 * DW))

    def test_sub(self):
        self.of_cells("a = sub w v\nloss a\n", (W - V, DW - DV))
        self.of_cells("a = sub w x\nloss a\n", (W - X, DW))
        self.of_cells("a = sub x v\nloss a\n", (X - V, -DV))
        self.of_cells("a = sub x y\nloss a\n", (X - Y, 0))
        self.of_cells("a = sub w w\nloss a\n", (0, 0))

    def test_times(self):
        self.of_cells("a = times w v\nloss a\n", (W * V, DW * V + W * DV))
        self.of_cells("a = times w x\nloss a\n", (W * X, DW * X))
        self.of_cells("a = times x v\nloss a\n", (X * V, X * DV))
        self.of_cells("a = times x y\nloss a\n", (X * Y, 0))
        self.of_cells("a = times w w\nloss a\n", (W * W, 2 * W * DW))

    def test_product(self):
        text = "param a 1 2\nparam b 2 1\ninput x 1 2\ninput y 2 1\nc = product {}\nloss c\n"
        a, b, x, y, da, db = ((1, 2),), ((3,), (-4,)), ((5, 6),), ((7,), (8,)), ((10, 100),), ((1000,), (-1,))
        for values, expected in (
            ("a b", (-5, 30 - 400 + 1000 - 2)),
            ("a y", (23, 70 + 800)),
            ("x b", (-9, 5000 - 6)),
            ("x y", (83, 0)),
        ):
            self.check(text.format(values), (a, b), (x, y), (da, db), expected)

    def test_product_of_larger_matrices(self):
        # An entry of the product is picked out by a row and a column of zeros and a one.
        text = (
            "param a 2 2\nparam b 2 2\ninput r 1 2\ninput c 2 1\n"
            "p = product a b\nq = product r p\ns = product q c\nloss s\n"
        )
        a, b, da, db = ((1, 2), (3, 4)), ((5, 6), (7, 8)), ((1, 0), (0, 10)), ((0, 100), (1000, 0))
        values = ((19, 22), (43, 50))
        changes = ((5 + 2000, 6 + 100), (70 + 4000, 80 + 300))
        for row, column in itertools.product(range(2), range(2)):
            picked = ((tuple(int(k == row) for k in range(2)),), tuple((int(k == column),) for k in range(2)))
            self.check(text, (a, b), picked, (da, db), (values[row][column], changes[row][column]))

    def masked(self, leaf, step, shape, value, direction, mask):
        """The loss is the total of the step's value times an input."""
        text = (
            f"param a {leaf}\ninput u {leaf}\ninput mask {shape}\n"
            f"s = {step}\nm = times s mask\nz = total m\nloss z\n"
        )
        program = read_program(text)
        found = rates(program, (value,), (value, mask), (direction,))
        # The same step on an input has the same loss, but no rate.
        without = rates(read_program(text.replace(f"= {step}", f"= {step.replace(' a', ' u')}")),
                        (value,), (value, mask), (direction,))
        self.assertEqual(without, (found[0], 0))
        return found

    def test_turn(self):
        mask = ((1, 10), (100, 1000), (10000, 100000))
        self.assertEqual(
            self.masked("2 3", "turn a", "3 2", ((1, 2, 3), (4, 5, 6)), ((1, 0, 0), (2, -3, 0)), mask),
            (1 + 40 + 200 + 5000 + 30000 + 600000, 1 + 20 - 3000),
        )

    def test_positive(self):
        mask = ((1, 10, 100, 1000),)
        self.assertEqual(
            self.masked("1 4", "positive a", "1 4", ((5, 0, -5, 1),), ((2, 3, 4, -6),), mask), (1005, 2 - 6000)
        )

    def test_total(self):
        self.assertEqual(
            self.masked("2 2", "total a", "1 1", ((1, 2), (3, 4)), ((5, 6), (7, -9)), cell(3)), (30, 27)
        )

    def test_spread(self):
        self.assertEqual(
            self.masked("1 1", "spread a 2 3", "2 3", cell(4), cell(-7), ((1, 1, 1), (10, 10, 0))), (92, -161)
        )

    def test_stretch(self):
        for factor in (-1000, -1, 0, 3):
            self.assertEqual(
                self.masked("1 2", f"stretch a {factor}", "1 2", ((5, 6),), ((1, -2),), ((10, 1),)),
                (56 * factor, 8 * factor),
            )

    def test_pick(self):
        text = (
            "param t 3 2\ninput u 3 2\ninput ids 2 1\ninput mask 2 2\n"
            "y = pick {} ids\nm = times y mask\nz = total m\nloss z\n"
        )
        table, change = ((1, 2), (3, 4), (5, 6)), ((7, 8), (9, 1), (2, 3))
        inputs = (table, ((2,), (0,)), ((1, 10), (100, 1000)))
        self.check(text.format("t"), (table,), inputs, (change,), (65 + 2100, 2 + 30 + 700 + 8000))
        self.check(text.format("u"), (table,), inputs, (change,), (65 + 2100, 0))

    def test_rates_go_on_from_step_to_step(self):
        self.of_cells(
            "a = times w x\nb = sub y a\nc = times b b\nd = add c v\nloss d\n",
            ((Y - W * X) ** 2 + V, -2 * (Y - W * X) * DW * X + DV),
        )

    def test_directions_of_zeros(self):
        self.of_cells("a = times w v\nloss a\n", (W * V, 0), (W, V, X, Y, 0, 0))

    def test_no_steps_and_several_params(self):
        text = "param a 2 2\nparam w 1 1\nloss w\n"
        self.check(text, (((1, 2), (3, 4)), cell(5)), (), (((9, 9), (9, 9)), cell(6)), (5, 6))


class Faults(Cases):
    def faults(self, steps, entries):
        self.of_cells(steps, None, entries)

    def test_the_loss_faults(self):
        self.faults("a = stretch w 1000\nloss a\n", (10000, 0, 0, 0, 0, 0))
        self.faults("a = stretch x 1000\nloss a\n", (0, 0, 10000, 0, 0, 0))
        self.faults("a = stretch x 1000\nb = add a w\nloss b\n", (0, 0, 10000, 0, 0, 0))

    def test_neither_the_loss_nor_its_rate_depends_on_it(self):
        steps = "a = stretch w 1000\nb = add a a\nc = times w x\nloss c\n"
        self.of_cells(steps, (MOST, 5), (MOST, 0, 1, 0, 5, 0))
        # Here only the rate of what is not needed is too large.
        self.of_cells(steps, (0, 10000), (0, 0, 1, 0, 10000, 0))
        self.of_cells("a = stretch w 1000\nloss x\n", (4, 0), (MOST, 0, 4, 0, MOST, 0))

    def test_only_the_rate_depends_on_it(self):
        self.faults("a = stretch w 1000\nloss a\n", (0, 0, 0, 0, 10000, 0))
        self.of_cells("a = stretch w 1000\nloss a\n", (0, 9999000), (0, 0, 0, 0, 9999, 0))
        self.faults("a = stretch w -1000\nb = turn a\nloss b\n", (0, 0, 0, 0, 10000, 0))

    def test_the_parts_of_times(self):
        steps = "a = times w v\nloss a\n"
        self.faults(steps, (0, 5, 0, 0, 2000000, 0))
        self.faults(steps, (5, 0, 0, 0, 0, 2000000))
        # Each part alone is too large, though their sum would be 0.
        self.faults(steps, (-5, 5, 0, 0, 2000000, 2000000))
        # Each part alone is within the bounds, their sum is not.
        self.faults(steps, (1, 1, 0, 0, 5000000, 5000000))
        self.of_cells(steps, (1, MOST), (1, 1, 0, 0, 5000000, 4999999))

    def test_the_parts_of_product(self):
        steps = "a = product w v\nloss a\n"
        self.faults(steps, (0, 5, 0, 0, 2000000, 0))
        self.faults(steps, (5, 0, 0, 0, 0, 2000000))
        self.faults(steps, (-5, 5, 0, 0, 2000000, 2000000))
        self.faults(steps, (1, 1, 0, 0, 5000000, 5000000))
        self.of_cells(steps, (1, MOST), (1, 1, 0, 0, 5000000, 4999999))

    def test_add_and_sub(self):
        self.faults("a = add w v\nloss a\n", (0, 0, 0, 0, 5000000, 5000000))
        self.of_cells("a = add w v\nloss a\n", (0, MOST), (0, 0, 0, 0, 5000000, 4999999))
        self.faults("a = sub w v\nloss a\n", (0, 0, 0, 0, 5000000, -5000000))
        self.of_cells("a = sub w v\nloss a\n", (0, MOST), (0, 0, 0, 0, 5000000, -4999999))
        self.of_cells("a = sub x v\nloss a\n", (0, -MOST), (0, 0, 0, 0, 0, MOST))

    def test_total(self):
        text = "param w 1 2\ny = total w\nloss y\n"
        self.check(text, (((0, 0),),), (), (((5000000, 5000000),),), None)
        self.check(text, (((5000000, 5000000),),), (), (((0, 0),),), None)
        self.check(text, (((0, 0),),), (), (((5000000, 4999999),),), (0, MOST))

    def test_a_gate_that_lets_nothing_through(self):
        steps = "a = stretch w 1000\nb = positive a\nloss b\n"
        # The rate is too large before the gate makes it 0.
        self.faults(steps, (-1, 0, 0, 0, 10000, 0))
        self.of_cells(steps, (0, 0), (-1, 0, 0, 0, 9999, 0))

    def test_rows_that_do_not_exist(self):
        text = "param t 2 1\ninput ids 1 1\ny = pick t ids\nloss y\n"
        self.check(text, (((5,), (6,)),), (cell(1),), (((7,), (8,)),), (6, 8))
        self.check(text, (((5,), (6,)),), (cell(2),), (((7,), (8,)),), None)


def directions_of_all_sorts(program, chance):
    """Zeros, one 1 among zeros, small and large entries."""
    params = program[0]
    sort = chance.choice(("zeros", "one", "small", "small", "large"))
    most = {"zeros": 0, "one": 0, "small": 9, "large": 99999}[sort]
    found = [matrix(rows, columns, chance, most) for _, rows, columns in params]
    if sort == "one":
        at = chance.randrange(len(params))
        rows, columns = params[at][1:]
        row, column = chance.randrange(rows), chance.randrange(columns)
        found[at] = tuple(
            tuple(int((k, j) == (row, column)) for j in range(columns)) for k in range(rows)
        )
    return tuple(found)


def summed(gradient, direction):
    return sum(
        x * y for row, other in zip(gradient, direction) for x, y in zip(row, other)
    )


def exact(program, weights, inputs, directions):
    """Loss and rate by pairs of a value and its rate, without bounds."""
    params, _, steps, loss = program
    known = list(weights + inputs)
    moved = list(directions) + [tuple((0,) * len(row) for row in given) for given in inputs]
    for (_, kind, values, numbers), (rows, columns) in zip(steps, shapes(program)[len(known):]):
        a, b = known[values[0]], known[values[-1]]
        x, y = moved[values[0]], moved[values[-1]]
        places = [(k, j) for k in range(rows) for j in range(columns)]
        inner = range(len(b))
        rule = {
            "add": lambda k, j: (a[k][j] + b[k][j], x[k][j] + y[k][j]),
            "sub": lambda k, j: (a[k][j] - b[k][j], x[k][j] - y[k][j]),
            "times": lambda k, j: (a[k][j] * b[k][j], x[k][j] * b[k][j] + a[k][j] * y[k][j]),
            "product": lambda k, j: (
                sum(a[k][i] * b[i][j] for i in inner),
                sum(x[k][i] * b[i][j] + a[k][i] * y[i][j] for i in inner),
            ),
            "turn": lambda k, j: (a[j][k], x[j][k]),
            "positive": lambda k, j: (a[k][j], x[k][j]) if a[k][j] > 0 else (0, 0),
            "total": lambda k, j: (sum(map(sum, a)), sum(map(sum, x))),
            "spread": lambda k, j: (a[0][0], x[0][0]),
            "stretch": lambda k, j: (a[k][j] * numbers[0], x[k][j] * numbers[0]),
            "pick": lambda k, j: (a[b[k][0] % len(a)][j], x[b[k][0] % len(a)][j]),
        }[kind]
        pairs = {place: rule(*place) for place in places}
        for part, kept in enumerate((known, moved)):
            kept.append(tuple(tuple(pairs[k, j][part] for j in range(columns)) for k in range(rows)))
    return known[loss][0][0], moved[loss][0][0]


class Agreement(unittest.TestCase):
    def test_gradients_and_rates_agree(self):
        chance = random.Random(43)
        both, moving = 0, 0
        for _ in range(600):
            program = deep_program(chance)
            weights, inputs = random_leaves(program, chance, chance.choice((1, 3, 30, 3000)))
            for _ in range(3):
                directions = directions_of_all_sorts(program, chance)
                found = rates(program, weights, inputs, directions)
                if found is not None:
                    self.assertEqual(found[0], forward(program, weights, inputs)[0])
                    self.assertEqual(found, exact(program, weights, inputs, directions))
                other = gradients(program, weights, inputs)
                if other is not None:
                    self.assertEqual(other[0], forward(program, weights, inputs)[0])
                if found is not None and other is not None:
                    self.assertEqual(found[1], sum(map(summed, other[1], directions)))
                    both += 1
                    moving += found[1] != 0
        self.assertGreater(both, 1200)
        self.assertGreater(moving, 500)

    def test_each_entry_of_a_gradient_is_the_rate_in_its_direction(self):
        text = (
            "param a 2 3\nparam b 3 2\nparam k 1 1\ninput x 2 2\ninput ids 3 1\n"
            "p = product a b\nq = add p x\nr = positive q\ns = turn r\nt = pick b ids\nu = total t\n"
            "v = spread k 2 2\nw = times s v\ny = total w\nz = sub y u\nm = stretch z -2\nn = times m z\nloss n\n"
        )
        program = read_program(text)
        chance = random.Random(44)
        for _ in range(20):
            weights = tuple(matrix(rows, columns, chance, 4) for _, rows, columns in program[0])
            inputs = (matrix(2, 2, chance, 9), tuple((chance.randint(0, 2),) for _ in range(3)))
            _, found = gradients(program, weights, inputs)
            for at, (_, rows, columns) in enumerate(program[0]):
                for row, column in itertools.product(range(rows), range(columns)):
                    directions = [matrix(*part[1:], chance, 0) for part in program[0]]
                    directions[at] = tuple(
                        tuple(int((k, j) == (row, column)) for j in range(columns)) for k in range(rows)
                    )
                    _, rate = rates(program, weights, inputs, tuple(directions))
                    self.assertEqual(rate, found[at][row][column])

    def test_arguments_are_unchanged(self):
        program = read_program(LEAVES + "a = times w x\nb = sub y a\nloss b\n")
        arguments = [program, [cell(W), cell(V)], [cell(X), cell(Y)], [cell(DW), cell(DV)]]
        before = copy.deepcopy(arguments)
        self.assertEqual(rates(*arguments), (Y - W * X, -DW * X))
        self.assertEqual(arguments, before)


if __name__ == "__main__":
    unittest.main()
