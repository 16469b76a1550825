"""Losses, gradients and rates of model programs (sections 13 to 16 of the document)."""

from lasttext.lines import LineWriter, run_lines
from lasttext.matrices import operate
from lasttext.programs import shapes

TWO_SIDED = ("add", "sub", "times", "product")


def forward(program, weights, inputs):
    """The loss, and the values of the steps, each None if it cannot be computed."""
    steps, loss = program[2:]
    known = [*weights, *inputs]
    leaves = len(known)
    for _, kind, values, numbers in steps:
        matrices = tuple([known[value] for value in values])
        known.append(None if None in matrices else operate(kind, numbers, matrices))
    found = None if known[loss] is None else known[loss][0][0]
    return (found, tuple(known[leaves:]))


def plan(program):
    """The number of leaves, the lines, and the numbers of the loss and of the gradients."""
    params, inputs = program[:2]
    leaves = len(params) + len(inputs)
    writer = ProgramWriter(leaves)
    loss, found = writer.write_plan(program, list(range(leaves)))
    return (leaves, tuple(writer.lines), loss, found)


def gradients(program, weights, inputs):
    """The loss and the gradients of all params, or None if a needed line faults."""
    _, lines, loss, found = plan(program)
    outputs = run_lines((*weights, *inputs), lines, (loss, *found))[0]
    return None if outputs is None else (outputs[0][0][0], outputs[1:])


def rates(program, weights, inputs, directions):
    """The loss and its rate, or None if an operation that they depend on faults."""
    steps, loss = program[2:]
    leaves = len(weights) + len(inputs)
    matrices = (*weights, *inputs, *directions)
    writer = ProgramWriter(len(matrices))
    places = writer.write_steps(steps, list(range(leaves)))
    known_rates = writer.write_rates(steps, places, list(range(leaves, len(matrices))))
    rate = known_rates[loss]
    wanted = (places[loss],) if rate is None else (places[loss], rate)
    outputs = run_lines(matrices, writer.lines, wanted)[0]
    if outputs is None:
        return None
    return (outputs[0][0][0], 0 if rate is None else outputs[1][0][0])


class ProgramWriter(LineWriter):
    """A line program with the steps of model programs and their ways back.

    The place of a value of a model program is its number in the line program.
    """

    def write_steps(self, steps, leaves):
        """The operations of steps on the places of params and inputs; returns the places of all values."""
        places = list(leaves)
        for _, kind, values, numbers in steps:
            places.append(self.write(kind, numbers, tuple([places[value] for value in values])))
        return places

    def write_plan(self, program, leaves):
        """The plan on these leaves; returns the places of the loss and of the gradients."""
        params, _, steps, loss = program
        places = self.write_steps(steps, leaves)
        known_shapes = shapes(program)
        # The place of what each value has got so far.
        got = [None] * len(places)
        got[loss] = self.write("fill", (1, 1, 1), ())
        for at in reversed(range(len(steps))):
            g = got[len(leaves) + at]
            if g is None:
                continue
            _, kind, values, numbers = steps[at]
            first, second = values[0], values[-1]
            a, b = places[first], places[second]
            part = self.write_first((kind, numbers), a, b, known_shapes[first], g)
            got[first] = self.write_both(got[first], part)
            part = self.write_second(kind, a, g)
            got[second] = self.write_both(got[second], part)
        found = []
        for place, (_, rows, columns) in zip(got, params):
            found.append(self.write("fill", (rows, columns, 0), ()) if place is None else place)
        return (places[loss], tuple(found))

    def write_first(self, operation, a, b, shape, g):
        """What the first value of a step gets, `shape` being its shape; returns its place."""
        kind, numbers = operation
        if kind in ("add", "sub"):
            return g
        if kind == "times":
            return self.write("times", (), (g, b))
        if kind == "product":
            turned = self.write("turn", (), (b,))
            return self.write("product", (), (g, turned))
        if kind == "positive":
            return self.write("gate", (), (a, g))
        if kind == "total":
            return self.write("spread", shape, (g,))
        if kind == "spread":
            return self.write("total", (), (g,))
        if kind == "pick":
            return self.write("place", shape[:1], (b, g))
        # `turn` and `stretch` are their own ways back.
        return self.write(kind, numbers, (g,))

    def write_second(self, kind, a, g):
        """What the second value of a step gets; returns its place, or None for nothing."""
        if kind == "add":
            return g
        if kind == "sub":
            return self.write("stretch", (-1,), (g,))
        if kind == "times":
            return self.write("times", (), (g, a))
        if kind == "product":
            turned = self.write("turn", (), (a,))
            return self.write("product", (), (turned, g))
        return None

    def write_both(self, first, second):
        """The sum of two values, of which one or both may be missing; returns its place or None."""
        if first is None:
            return second
        if second is None:
            return first
        return self.write("add", (), (first, second))

    def write_rates(self, steps, places, directions):
        """The rates of all values; returns their places, None where a value depends on no param."""
        inputs = len(places) - len(steps) - len(directions)
        found = directions + [None] * inputs
        for _, kind, values, numbers in steps:
            a, b = places[values[0]], places[values[-1]]
            x, y = found[values[0]], found[values[-1]]
            if kind in TWO_SIDED:
                first = self.write_first_rate(kind, x, b)
                second = self.write_second_rate(kind, a, y)
                found.append(self.write_both(first, second))
            else:
                found.append(self.write_rate((kind, numbers), a, b, x))
        return found

    def write_first_rate(self, kind, x, b):
        if x is None or kind in ("add", "sub"):
            return x
        return self.write(kind, (), (x, b))

    def write_second_rate(self, kind, a, y):
        if y is None or kind == "add":
            return y
        if kind == "sub":
            return self.write("stretch", (-1,), (y,))
        return self.write(kind, (), (a, y))

    def write_rate(self, operation, a, b, x):
        """The rate of a step whose first value alone can depend on a param."""
        kind, numbers = operation
        if x is None:
            return None
        if kind == "positive":
            return self.write("gate", (), (a, x))
        if kind == "pick":
            return self.write("pick", (), (x, b))
        return self.write(kind, numbers, (x,))
