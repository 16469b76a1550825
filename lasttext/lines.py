"""Line programs: what is needed of them, and their execution (sections 10 to 12 of the document)."""

from lasttext.matrices import operate


def needed(leaves, lines, outputs):
    """The tuple of the indexes of the lines that the outputs need, in ascending order."""
    wanted = set(outputs)
    indexes = []
    # A line is applied to earlier values only, so that one way back finds all.
    for index in reversed(range(len(lines))):
        if leaves + index in wanted:
            indexes.append(index)
            for value in lines[index][2]:
                wanted.add(value)
    return tuple(sorted(indexes))


def run_lines(matrices, lines, outputs):
    """The outputs' values, or None if a line faulted, and the operations that were asked."""
    runner = LineRunner()
    found = runner.execute(matrices, lines, outputs)
    return (found, tuple(runner.operations))


class LineRunner:
    """Executes line programs, and keeps the list of all operations that they ask."""

    def __init__(self):
        self.operations = []

    def execute(self, matrices, lines, outputs):
        """The outputs' values, or None if a needed line faults."""
        leaves = len(matrices)
        known = dict(enumerate(matrices))
        for index in needed(leaves, lines, outputs):
            kind, numbers, values = lines[index]
            operation = (kind, numbers, tuple([known[value] for value in values]))
            self.operations.append(operation)
            result = self.result_of(operation)
            if result is None:
                return None
            known[leaves + index] = result
        return tuple([known[value] for value in outputs])

    def result_of(self, operation):
        kind, numbers, matrices = operation
        return operate(kind, numbers, matrices)


class LineWriter:
    """A line program that is written line by line."""

    def __init__(self, leaves):
        self.leaves = leaves
        self.lines = []

    def write(self, kind, numbers, values):
        """Put a line behind the others, and return the number of its value."""
        self.lines.append((kind, numbers, values))
        return self.leaves + len(self.lines) - 1
