"""Runs that look their operations up in a table (sections 31 and 32 of the document).

A table is a dict of the results by their operations; its order is that in
which the entries came in.
"""

from lasttext.matrices import operate
from lasttext.runs import Runner


class TableRunner(Runner):
    """Executes runs by a table; `new` has the results that the table lacks, in the order they were first asked."""

    def __init__(self, results):
        super().__init__()
        self.results = results
        self.new = {}

    def result_of(self, operation):
        if operation in self.results:
            return self.results[operation]
        if operation not in self.new:
            kind, numbers, matrices = operation
            self.new[operation] = operate(kind, numbers, matrices)
        return self.new[operation]
