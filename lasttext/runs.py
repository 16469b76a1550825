"""Runs: the documents of their steps, their states and their operations (sections 24 to 26 and 35 of the document).

A state is the tuple `("state", weights, momenta, residues, losses)`. Here a
step is the pair of its settings and of the matrices of its documents.
"""

from lasttext.back import ProgramWriter
from lasttext.lines import LineRunner
from lasttext.matrices import filled
from lasttext.orders import order, shares
from lasttext.settings import SettingsWriter


def documents_of(text):
    """For each step the tuple of its documents, as pairs of source index and document name."""
    givers = [Giver(index, source) for index, source in enumerate(text[2])]
    found = []
    for steps, batch, weights, _ in text[3]:
        given = [givers[source].next_document() for source in shares(weights, steps * batch)]
        found.extend([tuple(given[at * batch : (at + 1) * batch]) for at in range(steps)])
    return tuple(found)


def steps_of(text):
    """The tuple of all steps."""
    settings = []
    for segment in text[3]:
        settings.extend([segment[3]] * segment[0])
    tables = [dict(source[2]) for source in text[2]]
    steps = []
    for each, documents in zip(settings, documents_of(text)):
        steps.append((each, tuple([tables[source][name] for source, name in documents])))
    return tuple(steps)


def run(text, step):
    """The state behind a step, or `("fault", n)`."""
    runner = Runner()
    return runner.run_text(text, step)


def asked(text, step):
    """All operations that the run asks up to a step, in their order."""
    runner = Runner()
    runner.run_text(text, step)
    return tuple(runner.operations)


def first_state(text):
    zeros = tuple([filled(rows, columns, 0) for _, rows, columns in text[0][0]])
    return ("state", text[1], zeros, zeros, ())


def next_state(state, outputs):
    """The state behind a step with these outputs."""
    count = len(state[1])
    weights, momenta = outputs[:count], outputs[count : 2 * count]
    residues, loss = outputs[2 * count : 3 * count], outputs[3 * count][0][0]
    return ("state", weights, momenta, residues, (*state[4], loss))


def step_lines(program, settings, count):
    """The lines and the outputs of a step with `count` documents."""
    params, inputs = program[:2]
    writer = StepWriter(3 * len(params) + count * len(inputs))
    outputs = writer.write_step(program, settings, count)
    return (tuple(writer.lines), outputs)


def step_leaves(state, documents):
    """The leaves of a step on a state."""
    leaves = [*state[1], *state[2], *state[3]]
    for matrices in documents:
        leaves.extend(matrices)
    return tuple(leaves)


class Giver:
    """A source that gives its documents, round after round."""

    def __init__(self, index, source):
        self.index = index
        self.seed = source[1]
        self.names = tuple([document[0] for document in source[2]])
        self.rounds = 0
        self.waiting = []

    def next_document(self):
        if self.waiting == []:
            self.waiting = list(order(self.seed, self.rounds, self.names))
            self.rounds += 1
        return (self.index, self.waiting.pop(0))


class StepWriter(ProgramWriter, SettingsWriter):
    """The line program of a step, or of the tests."""

    def write_plans(self, program, first, count):
        """The plans of `count` documents whose inputs are the leaves from `first` on.

        Returns the list of the losses and the list of the gradients of each.
        """
        params, inputs = program[:2]
        losses = []
        found = []
        for document in range(count):
            begin = first + document * len(inputs)
            leaves = list(range(len(params))) + list(range(begin, begin + len(inputs)))
            loss, gradients = self.write_plan(program, leaves)
            losses.append(loss)
            found.append(gradients)
        return (losses, found)

    def write_step(self, program, settings, count):
        """Returns the outputs."""
        params = len(program[0])
        losses, found = self.write_plans(program, 3 * params, count)
        loss = self.write_sum(losses)
        sums = [self.write_sum([gradients[param] for gradients in found]) for param in range(params)]
        parts = []
        for param, gradient in enumerate(sums):
            parts.append(self.write_advance(settings, param, params + param, 2 * params + param, gradient))
        weights, momenta, residues = list(zip(*parts))
        return (*weights, *momenta, *residues, loss)

    def write_tests(self, program, count):
        """Returns the number of the sum of the losses."""
        losses, _ = self.write_plans(program, len(program[0]), count)
        return self.write_sum(losses)


class Runner(LineRunner):
    """Executes runs, and keeps the list of all operations that they ask."""

    def run_text(self, text, step):
        """The state behind a step, or `("fault", n)`."""
        state = first_state(text)
        for number, each in enumerate(steps_of(text)[:step], start=1):
            state = self.run_step(text[0], state, each)
            if state is None:
                return ("fault", number)
        return state

    def run_step(self, program, state, step):
        """The state behind the step that follows a state, or None if it faults."""
        settings, documents = step
        lines, outputs = step_lines(program, settings, len(documents))
        found = self.execute(step_leaves(state, documents), lines, outputs)
        return None if found is None else next_state(state, found)

    def run_tests(self, text, state):
        """The loss of the tests at a state, or None if it faults."""
        program, tests = text[0], text[4]
        leaves = list(state[1])
        for test in tests:
            leaves.extend(test[1])
        writer = StepWriter(len(leaves))
        loss = writer.write_tests(program, len(tests))
        found = self.execute(tuple(leaves), tuple(writer.lines), (loss,))
        return None if found is None else found[0][0][0]

    def losses_of_tests(self, text, step):
        """The list of the losses of the tests at the states 0, 1, .. up to a step or to a fault."""
        state = first_state(text)
        losses = [self.run_tests(text, state)]
        for each in steps_of(text)[:step]:
            state = self.run_step(text[0], state, each)
            if state is None:
                break
            losses.append(self.run_tests(text, state))
        return losses
