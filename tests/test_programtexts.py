"""Sections 8 and 9: the text of a program, written and read."""

import copy
import random
import unittest

from lasttext import programtexts
from lasttext.errors import BadProgram
from lasttext.programs import shapes
from lasttext.programtexts import read_program, write_program
from tests.test_programs import ALL_KINDS

ALL_TEXT = """param a 2 3
param b 2 3
param c 3 4
param k 1 1
input x 6 2
input ids 5 1
s0 = add a b
s1 = sub s0 b
s2 = times s1 s0
s3 = product s2 c
s4 = turn s3
s5 = positive s4
s6 = total s5
s7 = spread s6 5 6
s8 = stretch s7 -1000
s9 = pick c ids
s10 = product x a
s11 = total s10
loss s6
"""

SMALL = "param w 1 1\ninput x 1 1\ny = times w x\nloss y\n"

# Leaves of several shapes for the tests of one line: seven lines.
LEAVES = """param k 1 1
param a 2 3
param b 3 2
param col 2 1
input ids 2 1
input two 2 2
input row 1 3
"""


class Cases(unittest.TestCase):
    def wrong(self, text, line):
        with self.assertRaises(BadProgram, msg=repr(text)) as caught:
            read_program(text)
        self.assertEqual(caught.exception.line, line, repr(text))

    def right(self, text):
        program = read_program(text)
        self.assertEqual(write_program(program), text)
        return program

    def wrong_step(self, line):
        """The line is wrong behind LEAVES, whatever follows it."""
        self.wrong(LEAVES + line + "\nloss k\n", 8)

    def right_step(self, line):
        return self.right(LEAVES + line + "\nloss k\n")[2][-1]


class Written(Cases):
    def test_line_by_line(self):
        self.assertEqual(write_program(ALL_KINDS).split("\n"), ALL_TEXT.split("\n"))

    def test_no_inputs_and_no_steps(self):
        self.assertEqual(write_program(((("w", 1, 1),), (), (), 0)), "param w 1 1\nloss w\n")

    def test_names_of_inputs_and_params_as_loss(self):
        program = ((("w", 1, 1), ("v", 2, 2)), (("x", 1, 1),), (), 2)
        self.assertEqual(write_program(program), "param w 1 1\nparam v 2 2\ninput x 1 1\nloss x\n")

    def test_numbers(self):
        for number, word in ((0, "0"), (7, "7"), (-7, "-7"), (1000, "1000"), (-1000, "-1000")):
            program = ((("w", 1, 1),), (), (("y", "stretch", (0,), (number,)),), 1)
            text = f"param w 1 1\ny = stretch w {word}\nloss y\n"
            self.assertEqual(write_program(program), text)
            self.assertEqual(read_program(text), program)

    def test_the_argument_is_unchanged(self):
        before = copy.deepcopy(ALL_KINDS)
        write_program(ALL_KINDS)
        self.assertEqual(ALL_KINDS, before)

    def test_defined_in_their_file(self):
        self.assertEqual(programtexts.write_program.__module__, "lasttext.programtexts")
        self.assertEqual(programtexts.read_program.__module__, "lasttext.programtexts")


class ReadBack(Cases):
    def test_each_kind_of_line(self):
        self.assertEqual(read_program(ALL_TEXT), ALL_KINDS)

    def test_tuples_all_through(self):
        program = read_program(ALL_TEXT)
        self.assertIs(type(program), tuple)
        for part in program[:3]:
            self.assertIs(type(part), tuple)
            for value in part:
                self.assertIs(type(value), tuple)
        for step in program[2]:
            self.assertIs(type(step[2]), tuple)
            self.assertIs(type(step[3]), tuple)

    def test_a_loss_of_each_kind(self):
        self.assertEqual(self.right("param w 1 1\nloss w\n")[3], 0)
        self.assertEqual(self.right("param w 2 1\ninput x 1 1\nloss x\n")[3], 1)
        self.assertEqual(self.right(SMALL)[3], 2)

    def test_the_most_params_and_inputs(self):
        params = "".join(f"param w{k} 6 6\n" for k in range(6))
        inputs = "".join(f"input x{k} 1 1\n" for k in range(4))
        program = self.right(params + inputs + "loss x3\n")
        self.assertEqual((len(program[0]), len(program[1]), program[3]), (6, 4, 9))

    def test_random_programs(self):
        chance = random.Random(3)
        for _ in range(200):
            program = random_program(chance)
            self.assertEqual(read_program(write_program(program)), program)


def random_program(chance):
    """A program of fitting steps, by trying steps that need not fit."""
    names = [f"n{k}" for k in range(24)]
    chance.shuffle(names)
    size = lambda: chance.choice((1, 1, 2, 3))
    params = [(names.pop(), size(), size()) for _ in range(chance.randint(0, 5))]
    params.append((names.pop(), 1, 1))
    inputs = [(names.pop(), size(), size()) for _ in range(chance.randint(0, 4))]
    known = [tuple(leaf[1:]) for leaf in params + inputs]
    steps = []
    for _ in range(60):
        kind = chance.choice(("add", "sub", "times", "product", "turn", "positive",
                              "total", "spread", "stretch", "pick"))
        count = 2 if kind in ("add", "sub", "times", "product", "pick") else 1
        values = tuple(chance.randrange(len(known)) for _ in range(count))
        a, b = known[values[0]], known[values[-1]]
        is_ids = len(params) <= values[-1] < len(params) + len(inputs) and b[1] == 1
        fits = {"product": a[1] == b[0], "spread": a == (1, 1), "pick": is_ids}
        if kind in ("add", "sub", "times"):
            fits[kind] = a == b
        numbers = {"spread": (size(), size()), "stretch": (chance.randint(-1000, 1000),)}
        if fits.get(kind, True) and len(known) + 1 < 24:
            steps.append((names.pop(), kind, values, numbers.get(kind, ())))
            known = list(shapes((tuple(params), tuple(inputs), tuple(steps), 0)))
    cells = [value for value, shape in enumerate(known) if shape == (1, 1)]
    return (tuple(params), tuple(inputs), tuple(steps), chance.choice(cells))


class Length(Cases):
    def steps(self, count):
        return "param w 1 1\n" + "".join(f"y{k} = turn w\n" for k in range(count))

    def test_24_lines_are_allowed(self):
        self.right(self.steps(22) + "loss w\n")

    def test_25_lines(self):
        self.wrong(self.steps(23) + "loss w\n", 25)

    def test_the_25th_stands_behind_the_last_newline(self):
        self.wrong(self.steps(22) + "loss w\nloss w", 25)
        self.wrong(self.steps(22) + "loss w\n ", 25)
        self.wrong(self.steps(23) + "loss w", 25)
        self.wrong(self.steps(22) + "loss w", 24)

    def test_too_many_lines_come_before_a_wrong_line(self):
        self.wrong("wrong\n" * 25, 25)
        self.wrong("wrong\n" * 24 + "w", 25)
        self.wrong("\n" * 25, 25)
        self.wrong("\n" * 100, 25)
        self.wrong("wrong\n" * 24, 1)
        self.wrong("\n" * 24, 1)

    def test_24_lines_without_a_loss(self):
        self.wrong(self.steps(23), 25)

    def test_a_wrong_line_before_what_stands_behind_the_last_newline(self):
        self.wrong("param w 1 1\nwrong\nloss w", 2)


class Ends(Cases):
    def test_no_newline_at_the_end(self):
        self.wrong(SMALL[:-1], 4)
        self.wrong("param w 1 1\nloss w", 2)
        self.wrong("param w 1 1", 1)

    def test_something_behind_the_last_newline(self):
        self.wrong(SMALL + "z", 5)
        self.wrong(SMALL + " ", 5)
        self.wrong(SMALL + "loss y", 5)

    def test_empty_text(self):
        self.wrong("", 1)

    def test_empty_lines(self):
        self.wrong("\n", 1)
        self.wrong("\n" + SMALL, 1)
        self.wrong(SMALL.replace("\n", "\n\n", 1), 2)
        self.wrong(SMALL + "\n", 5)
        self.wrong(" \n", 1)

    def test_no_loss_line(self):
        self.wrong("param w 1 1\n", 2)
        self.wrong("param w 1 1\ninput x 1 1\ny = times w x\n", 4)

    def test_a_line_behind_the_loss_line(self):
        for line in ("param v 1 1", "input z 1 1", "z = turn y", "loss y", "loss w"):
            self.wrong(SMALL + line + "\n", 5)


class Order(Cases):
    def test_a_seventh_param(self):
        params = "".join(f"param w{k} 1 1\n" for k in range(6))
        self.right(params + "loss w5\n")
        self.wrong(params + "param w6 1 1\nloss w6\n", 7)

    def test_a_fifth_input(self):
        leaves = "param w 1 1\n" + "".join(f"input x{k} 1 1\n" for k in range(4))
        self.right(leaves + "loss w\n")
        self.wrong(leaves + "input x4 1 1\nloss w\n", 6)

    def test_a_param_behind_an_input_or_a_step(self):
        self.wrong("param w 1 1\ninput x 1 1\nparam v 1 1\nloss w\n", 3)
        self.wrong("param w 1 1\ny = turn w\nparam v 1 1\nloss w\n", 3)

    def test_an_input_behind_a_step(self):
        self.wrong("param w 1 1\ny = turn w\ninput x 1 1\nloss w\n", 3)

    def test_each_line_needs_a_param(self):
        self.wrong("input x 1 1\nloss x\n", 1)
        self.wrong("y = turn y\n", 1)
        self.wrong("loss w\n", 1)
        self.wrong("loss\n", 1)


class Names(Cases):
    def test_right_names(self):
        for name in ("a", "z", "a0", "z9", "abcdefghijkl", "a12345678901", "param", "loss", "add"):
            self.right(f"param {name} 1 1\ny = turn {name}\nloss {name}\n")
            self.right(f"param w 1 1\ninput {name} 1 1\nloss {name}\n")
            self.right(f"param w 1 1\n{name} = turn w\nloss {name}\n")

    def test_wrong_names(self):
        for name in ("", "A", "aB", "0", "0a", "a_b", "a-b", "_a", "-", "a.", "abcdefghijklm", "="):
            self.wrong(f"param {name} 1 1\nloss {name}\n", 1)
            self.wrong(f"param w 1 1\ninput {name} 1 1\nloss w\n", 2)
            self.wrong(f"param w 1 1\n{name} = turn w\nloss w\n", 2)

    def test_names_that_are_declared_twice(self):
        self.wrong("param w 1 1\nparam w 1 1\nloss w\n", 2)
        self.wrong("param w 1 1\ninput w 1 1\nloss w\n", 2)
        self.wrong("param w 1 1\ninput x 1 1\ninput x 1 1\nloss w\n", 3)
        self.wrong("param w 1 1\nw = turn w\nloss w\n", 2)
        self.wrong("param w 1 1\ninput x 1 1\nx = turn w\nloss w\n", 3)
        self.wrong("param w 1 1\ny = turn w\ny = turn w\nloss w\n", 3)

    def test_names_that_are_not_declared(self):
        self.wrong_step("y = turn v")
        self.wrong_step("y = add k v")
        self.wrong_step("y = add v k")
        self.wrong_step("y = turn y")
        self.wrong("param w 1 1\ny = turn z\nz = turn w\nloss w\n", 2)
        self.wrong("param w 1 1\nloss v\n", 2)
        self.wrong("param w 1 1\nloss 0\n", 2)

    def test_steps_that_are_named_like_other_lines(self):
        for name in ("param", "input", "loss"):
            step = self.right_step(f"{name} = turn a")
            self.assertEqual(step, (name, "turn", (1,), ()))
            self.wrong_step(f"{name} =")
            self.wrong_step(f"{name} = 1 1")
            self.wrong_step(f"{name} = a")
        self.right(f"param w 1 1\nloss = turn w\nloss loss\n")
        self.wrong("param = 1 1\nloss w\n", 1)
        self.wrong("param w 1 1\nloss =\n", 2)
        self.wrong("param w 1 1\nloss = w\n", 2)

    def test_values_that_are_named_like_words(self):
        program = self.right("param add 1 1\ninput turn 1 1\nloss = add add turn\nloss loss\n")
        self.assertEqual(program[2], (("loss", "add", (0, 1), ()),))


class Numbers(Cases):
    def test_sizes(self):
        for word in ("1", "2", "3", "4", "5", "6"):
            self.right(f"param k 1 1\nparam w {word} 1\ninput x 1 {word}\nloss k\n")
            self.assertEqual(self.right_step(f"y = spread k {word} 1")[3], (int(word), 1))
            self.assertEqual(self.right_step(f"y = spread k 1 {word}")[3], (1, int(word)))

    def test_wrong_sizes(self):
        wrong = ("0", "7", "10", "-1", "-0", "+1", "01", "00001", "0001", "10000", "x", "",
                 "1.0", "1_0", "1e0", "1a", "1q", "0x1", "k", "-", "1" * 5000)
        for word in wrong:
            self.wrong(f"param w {word} 1\nloss w\n", 1)
            self.wrong(f"param w 1 {word}\nloss w\n", 1)
            self.wrong(f"param w 1 1\ninput x {word} 1\nloss w\n", 2)
            self.wrong(f"param w 1 1\ninput x 1 {word}\nloss w\n", 2)
            self.wrong_step(f"y = spread k {word} 1")
            self.wrong_step(f"y = spread k 1 {word}")

    def test_factors(self):
        for number in (0, 1, -1, 9, 10, 99, 100, 999, -999, 1000, -1000):
            self.assertEqual(self.right_step(f"y = stretch a {number}")[3], (number,))

    def test_wrong_factors(self):
        wrong = ("1001", "-1001", "9999", "10000", "-10000", "00", "01", "-01", "-0", "+1", "--1",
                 "0000", "00001", "1-", "- 1", "1_0", "1.", "", "a", "-", "+", "5" * 5000)
        for word in wrong:
            self.wrong_step(f"y = stretch a {word}")

    def test_how_many_numbers(self):
        for line in ("y = stretch a", "y = stretch a 1 1", "y = spread k", "y = spread k 1",
                     "y = spread k 1 1 1", "y = turn a 1", "y = add a a 1", "y = pick a ids 2",
                     "y = total a 0", "y = stretch 2 a", "y = spread 1 1 k"):
            self.wrong_step(line)
        for line in ("param w", "param w 1", "param w 1 1 1", "param", "param 1 1"):
            self.wrong(line + "\nloss w\n", 1)
            self.wrong(f"param k 1 1\n{line.replace('param', 'input')}\nloss k\n", 2)


class Spaces(Cases):
    def test_a_space_too_many(self):
        for at, line in enumerate(SMALL.split("\n")[:-1]):
            spots = [spot for spot, character in enumerate(line) if character == " "]
            for spot in (0, *spots, len(line)):
                lines = SMALL.split("\n")
                lines[at] = line[:spot] + " " + line[spot:]
                self.wrong("\n".join(lines), at + 1)

    def test_a_space_too_few(self):
        for at, line in enumerate(SMALL.split("\n")[:-1]):
            for spot, character in enumerate(line):
                if character == " ":
                    lines = SMALL.split("\n")
                    lines[at] = line[:spot] + line[spot + 1:]
                    self.wrong("\n".join(lines), at + 1)


class Steps(Cases):
    def test_fitting_steps(self):
        for line in ("y = add a a", "y = sub ids col", "y = times row row", "y = product a b",
                     "y = product b a", "y = product col row", "y = turn a", "y = positive ids",
                     "y = total a", "y = spread k 6 6", "y = stretch row 5", "y = pick a ids",
                     "y = pick ids ids", "y = pick row ids"):
            self.right_step(line)

    def test_shapes_that_do_not_fit(self):
        for kind in ("add", "sub", "times"):
            for pair in ("a b", "b a", "k a", "a k", "a row", "row a", "col k"):
                self.wrong_step(f"y = {kind} {pair}")
        for pair in ("a a", "b b", "a row", "row a", "k a", "a k", "a two"):
            self.wrong_step(f"y = product {pair}")
        for name in ("a", "col", "row", "ids", "two"):
            self.wrong_step(f"y = spread {name} 2 2")

    def test_shapes_of_earlier_steps(self):
        text = "param a 2 3\ny = turn a\nz = product a y\ns = total z\n"
        self.right(text + "loss s\n")
        self.wrong(text + "t = add y a\nloss s\n", 5)
        self.wrong(text + "t = add z z\nu = product z y\nloss s\n", 6)

    def test_pick_by_another_value(self):
        self.wrong_step("y = pick a col")
        self.wrong_step("y = pick a k")
        self.wrong_step("y = pick a two")
        self.wrong_step("y = pick a row")
        self.wrong_step("y = pick ids a")
        self.wrong(LEAVES + "s = stretch ids 1\ny = pick a s\nloss k\n", 9)
        self.wrong("param w 1 1\nparam v 1 1\ny = pick v w\nloss w\n", 3)

    def test_how_many_values(self):
        for line in ("y =", "y = add", "y = add a", "y = add a a a", "y = product a", "y = turn",
                     "y = turn a a", "y = pick a", "y = pick a ids ids", "y = total", "y = spread",
                     "y = positive a a", "y = stretch"):
            self.wrong_step(line)

    def test_other_kinds(self):
        for line in ("y = scale a 1", "y = gate a a", "y = place ids two 2", "y = fill 1 1 1",
                     "y = none a", "y = a", "y = ", "y = Add a a", "y = = a", "y = param 1 1"):
            self.wrong_step(line)

    def test_lines_of_no_kind(self):
        for line in ("y", "y a", "y == add a a", "Param v 1 1", "w 1 1", "= add a a", "=", "y add = a a"):
            self.wrong_step(line)


class Loss(Cases):
    def test_a_loss_of_another_shape(self):
        for name in ("a", "b", "col", "ids", "two", "row"):
            self.wrong(LEAVES + f"loss {name}\n", 8)
        self.wrong("param k 1 1\ny = spread k 1 2\nloss y\n", 3)
        self.right("param a 2 3\ny = total a\nloss y\n")

    def test_how_many_words(self):
        for line in ("loss", "loss k k", "loss k 1", "loss ", "Loss k"):
            self.wrong(LEAVES + line + "\n", 8)


if __name__ == "__main__":
    unittest.main()
