"""Model programs and the shapes of their values (sections 6 and 7 of the document)."""

from lasttext.matrices import CELL

STEP_KINDS = (
    "add",
    "sub",
    "times",
    "product",
    "turn",
    "positive",
    "total",
    "spread",
    "stretch",
    "pick",
)


def step_shape(step, known, input_numbers):
    """The shape of a step, or None if the step does not fit.

    `known` is the list of the shapes of the values before it, and
    `input_numbers` the list of the numbers of the inputs.
    """
    kind, values, numbers = step[1:]
    a, b = known[values[0]], known[values[-1]]
    if kind in ("add", "sub", "times"):
        return a if a == b else None
    if kind == "product":
        return (a[0], b[1]) if a[1] == b[0] else None
    if kind == "turn":
        return (a[1], a[0])
    if kind == "total":
        return CELL
    if kind == "spread":
        return (numbers[0], numbers[1]) if a == CELL else None
    if kind == "pick":
        fits = values[1] in input_numbers and b[1] == 1
        return (b[0], a[1]) if fits else None
    return a


def shapes(program):
    """The tuple of the shapes of all values of a program."""
    params, inputs, steps = program[:3]
    known = [(rows, columns) for name, rows, columns in (*params, *inputs)]
    input_numbers = list(range(len(params), len(known)))
    for step in steps:
        known.append(step_shape(step, known, input_numbers))
    return tuple(known)
