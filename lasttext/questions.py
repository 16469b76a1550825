"""The open question, and how it stands (section 34 of the document)."""

from lasttext.lines import needed
from lasttext.runs import first_state, next_state, step_leaves, step_lines, steps_of


class Question:
    """An open question; `held` has the operation of each worker, `count` the entries that were put in for it.

    How it stands follows from the table alone. As long as the table only
    grows, what was known stays known: `progress` keeps it, and is begun anew
    when entries are dropped.
    """

    def __init__(self, branch, step, text):
        self.branch = branch
        self.step = step
        self.asked_text = text
        self.held = {}
        self.count = 0
        self.progress = Progress(text, step)

    def begin_anew(self):
        self.progress = Progress(self.asked_text, self.step)

    def choose(self, results):
        """The wanted operation for the next worker, or None if nothing is wanted."""
        wanted = self.progress.go_on(results)
        held = list(self.held.values())
        for operation in wanted:
            if operation not in held:
                return operation
        return wanted[0] if wanted != [] else None

    def answer(self, results):
        """The answer, or None if something is wanted."""
        wanted = self.progress.go_on(results)
        return self.progress.reached if wanted == [] else None


class Progress:
    """How far a table leads along a run; `reached` is the last known state, or the fault."""

    def __init__(self, text, step):
        self.model = text[0]
        self.steps = steps_of(text)[:step]
        self.number = 0
        self.reached = first_state(text)
        self.partial = None

    def go_on(self, results):
        """Go as far as the table leads; returns the list of the wanted operations."""
        wanted = []
        while wanted == [] and self.reached[0] == "state" and self.number < len(self.steps):
            wanted = self.go_on_in_step(results)
        return wanted

    def go_on_in_step(self, results):
        """The same in the next step alone."""
        if self.partial is None:
            settings, documents = self.steps[self.number]
            lines, outputs = step_lines(self.model, settings, len(documents))
            self.partial = PartialStep(step_leaves(self.reached, documents), lines, outputs)
        wanted = self.partial.look(results)
        if self.partial.faulted:
            self.reached = ("fault", self.number + 1)
            return []
        if wanted == []:
            self.reached = next_state(self.reached, self.partial.known_outputs())
            self.number += 1
            self.partial = None
        return wanted


class PartialStep:
    """A step of which a table tells some values."""

    def __init__(self, matrices, lines, outputs):
        self.leaves = len(matrices)
        self.lines = lines
        self.outputs = outputs
        self.known = dict(enumerate(matrices))
        # The needed lines whose values are not known, in their order.
        self.pending = list(needed(self.leaves, lines, outputs))
        self.faulted = False

    def look(self, results):
        """Look the pending lines up; returns the list of the operations that are not in the table."""
        wanted = {}
        pending = []
        for index in self.pending:
            operation = self.operation_of(index)
            if operation is None or operation not in results:
                pending.append(index)
                if operation is not None:
                    wanted[operation] = True
            elif results[operation] is None:
                self.faulted = True
            else:
                self.known[self.leaves + index] = results[operation]
        self.pending = pending
        return list(wanted)

    def operation_of(self, index):
        """The operation of a line, or None if it is applied to a value that is not known."""
        kind, numbers, values = self.lines[index]
        if not all([value in self.known for value in values]):
            return None
        return (kind, numbers, tuple([self.known[value] for value in values]))

    def known_outputs(self):
        return tuple([self.known[value] for value in self.outputs])
