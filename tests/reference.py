"""The run from nothing, by the words of sections 10 to 12, 19 to 21, 24 to 26 and 35, without the program's runs.

Plans and operations are those of the program; they have tests of their own.
"""

from lasttext.back import plan
from lasttext.matrices import operate
from lasttext.orders import rank


def documents_by_definition(text):
    sources = text[2]
    given = [0] * len(sources)
    found = []
    for steps, batch, weights, _ in text[3]:
        credits_now = [0] * len(weights)
        for _ in range(steps):
            documents = []
            for _ in range(batch):
                credits_now = [held + weight for held, weight in zip(credits_now, weights)]
                giver = max(range(len(weights)), key=lambda k: (credits_now[k], -k))
                credits_now[giver] -= sum(weights)
                _, seed, owned = sources[giver]
                round_number, index = divmod(given[giver], len(owned))
                names = sorted((rank(seed, round_number, name), name) for name, _ in owned)
                documents.append((giver, names[index][1]))
                given[giver] += 1
            found.append(tuple(documents))
    return tuple(found)


class Lines:
    """A line program that is written by the words of the document."""

    def __init__(self, leaves):
        self.leaves = leaves
        self.lines = []

    def put(self, kind, numbers, *values):
        self.lines.append((kind, numbers, values))
        return self.leaves + len(self.lines) - 1

    def put_plan(self, program, leaves):
        """The lines of the plan with these leaves; the numbers of the loss and of the gradients."""
        count, lines, loss, found = plan(program)
        base = self.leaves + len(self.lines)
        moved = lambda value: leaves[value] if value < count else base + value - count
        for kind, numbers, values in lines:
            self.put(kind, numbers, *[moved(value) for value in values])
        return moved(loss), [moved(value) for value in found]

    def put_sum(self, values):
        if len(values) == 1:
            return values[0]
        half = -(-len(values) // 2)
        first = self.put_sum(values[:half])
        return self.put("add", (), first, self.put_sum(values[half:]))

    def put_settings(self, settings, weight, momentum, residue, g):
        rate, shift, momentum_setting, decay, coarse = settings
        sent, new_residue = g, residue
        if coarse:
            whole = self.put("add", (), g, residue)
            small = self.put("scale", (coarse,), whole)
            sent = self.put("stretch", (2 ** coarse,), small)
            new_residue = self.put("sub", (), whole, sent)
        new_momentum = sent
        if momentum_setting:
            long = self.put("stretch", (momentum_setting,), momentum)
            small = self.put("scale", (10,), long)
            new_momentum = self.put("add", (), small, sent)
        long = self.put("stretch", (rate,), new_momentum)
        small = self.put("scale", (shift,), long)
        new_weight = self.put("sub", (), weight, small)
        if decay:
            far = self.put("stretch", (decay,), weight)
            small = self.put("scale", (10,), far)
            new_weight = self.put("sub", (), new_weight, small)
        return new_weight, new_momentum, new_residue


def step_by_definition(program, settings, count):
    """The number of leaves, the lines and the outputs of a step."""
    params, inputs = len(program[0]), len(program[1])
    lines = Lines(3 * params + count * inputs)
    losses, found = [], []
    for document in range(count):
        first = 3 * params + document * inputs
        loss, gradients = lines.put_plan(program, [*range(params), *range(first, first + inputs)])
        losses.append(loss)
        found.append(gradients)
    loss = lines.put_sum(losses)
    sums = [lines.put_sum(list(values)) for values in zip(*found)]
    parts = [
        lines.put_settings(settings, param, params + param, 2 * params + param, sums[param])
        for param in range(params)
    ]
    outputs = [part[0] for part in parts] + [part[1] for part in parts] + [part[2] for part in parts]
    return lines.leaves, lines.lines, (*outputs, loss)


def needed_by_definition(leaves, lines, outputs):
    found = set()
    ahead = list(outputs)
    while ahead:
        value = ahead.pop()
        if value >= leaves and value not in found:
            found.add(value)
            ahead.extend(lines[value - leaves][2])
    return sorted(value - leaves for value in found)


def executed(matrices, lines, outputs):
    """The outputs' values or None, the operations, and their results."""
    values = list(matrices) + [None] * len(lines)
    operations, results = [], []
    for index in needed_by_definition(len(matrices), lines, outputs):
        kind, numbers, numbers_of_values = lines[index]
        operation = (kind, numbers, tuple(values[value] for value in numbers_of_values))
        operations.append(operation)
        results.append(operate(*operation))
        if results[-1] is None:
            return None, operations, results
        values[len(matrices) + index] = results[-1]
    return tuple(values[value] for value in outputs), operations, results


def zeros_of(program):
    return tuple(((0,) * columns,) * rows for _, rows, columns in program[0])


class Reference:
    """The run of a text: for each step the state behind it or None, the operations and their results."""

    def __init__(self, text):
        self.text = text
        program, start, sources, segments, _ = text
        zeros = zeros_of(program)
        self.states = [("state", start, zeros, zeros, ())]
        self.fault = None
        self.operations = []
        self.results = []
        self.leaves = []
        settings = [segment[3] for segment in segments for _ in range(segment[0])]
        for rule, documents in zip(settings, documents_by_definition(text)):
            _, weights, momenta, residues, losses = self.states[-1]
            inputs = [dict(sources[at][2])[name] for at, name in documents]
            matrices = [*weights, *momenta, *residues, *[one for each in inputs for one in each]]
            _, lines, outputs = step_by_definition(program, rule, len(documents))
            values, operations, results = executed(matrices, lines, outputs)
            self.operations.append(operations)
            self.results.append(results)
            self.leaves.append(matrices)
            if values is None:
                self.fault = len(self.states)
                break
            p = len(program[0])
            losses = (*losses, values[-1][0][0])
            self.states.append(("state", values[:p], values[p:2 * p], values[2 * p:3 * p], losses))

    def result(self, step):
        if self.fault is not None and self.fault <= step:
            return ("fault", self.fault)
        return self.states[step]

    def asked(self, step):
        return tuple(one for each in self.operations[:step] for one in each)

    def tests(self, step):
        """The loss of the tests at the state behind a step, and the operations; None and none without a state."""
        if self.result(step)[0] == "fault":
            return None, ()
        program, tests = self.text[0], self.text[4]
        leaves = [*self.states[step][1], *[one for _, each in tests for one in each]]
        lines = Lines(len(leaves))
        params, inputs = len(program[0]), len(program[1])
        losses = []
        for at in range(len(tests)):
            first = params + at * inputs
            losses.append(lines.put_plan(program, [*range(params), *range(first, first + inputs)])[0])
        values, operations, _ = executed(leaves, lines.lines, (lines.put_sum(losses),))
        return None if values is None else values[0][0][0], tuple(operations)


def different(operations):
    """The operations in the order in which they are first asked, each once."""
    return tuple(dict.fromkeys(operations))


def standing(text, step, table):
    """How a question stands by a table, a dict: its answer or None, and the list of the wanted operations."""
    program, start, sources, segments, _ = text
    p = len(program[0])
    zeros = zeros_of(program)
    state = ("state", start, zeros, zeros, ())
    settings = [segment[3] for segment in segments for _ in range(segment[0])]
    for number, (rule, documents) in enumerate(list(zip(settings, documents_by_definition(text)))[:step], start=1):
        inputs = [one for at, name in documents for one in dict(sources[at][2])[name]]
        leaves, lines, outputs = step_by_definition(program, rule, len(documents))
        values = dict(enumerate([*state[1], *state[2], *state[3], *inputs]))
        wanted, faulted = [], False
        for index in needed_by_definition(leaves, lines, outputs):
            kind, numbers, numbers_of_values = lines[index]
            if any(value not in values for value in numbers_of_values):
                continue
            operation = (kind, numbers, tuple(values[value] for value in numbers_of_values))
            if operation not in table:
                wanted.append(operation)
            elif table[operation] is None:
                faulted = True
            else:
                values[leaves + index] = table[operation]
        if faulted:
            return ("fault", number), []
        if wanted:
            return None, list(dict.fromkeys(wanted))
        found = tuple(values[value] for value in outputs)
        state = ("state", found[:p], found[p:2 * p], found[2 * p:3 * p], (*state[4], found[3 * p][0][0]))
    return state, []
