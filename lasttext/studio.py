"""Studios: branches, a table, questions and bills (sections 29 to 39 of the document)."""

from lasttext.branches import Branch
from lasttext.claims import judged, transcript_of
from lasttext.depends import state_hangs_on, steps_with
from lasttext.edits import document_place, edited, first_changed, new_text, source_place, step_count
from lasttext.errors import Refused
from lasttext.journallines import written_beginning, written_call
from lasttext.matrices import operate
from lasttext.questions import Question
from lasttext.tables import TableRunner

MOST_BRANCHES = 6
MOST_BILLS = 1000
MOST_ENTRIES = 20000


class Studio:
    """Branches of texts, and what has been computed for questions about their runs.

    The methods stand in the order of the document's sections; what they share
    stands behind them, from `branch_of` on.
    """

    def __init__(self, program, start):
        self.branch_list = [Branch(new_text(program, start))]
        # The results of the operations of the table, in the order in which they came in.
        self.results = {}
        self.question = None
        self.bill_list = []
        self.journal_lines = [written_beginning(program, start)]

    def text(self, branch):
        return self.branch_of(branch).now

    def branches(self):
        return len(self.branch_list)

    def edit(self, branch, name, arguments):
        """Returns the number of the first state that can differ, or None."""
        old = self.text(branch)
        self.branch_of(branch).change(edited(old, name, arguments))
        return self.changed(old, name, branch, arguments)

    def fork(self, branch):
        """Returns the number of the new branch."""
        text = self.text(branch)
        if len(self.branch_list) >= MOST_BRANCHES:
            raise Refused("too many branches")
        self.branch_list.append(Branch(text))
        self.note("fork", branch, ())
        return len(self.branch_list) - 1

    def undo(self, branch):
        old = self.text(branch)
        self.branch_of(branch).step_back()
        return self.changed(old, "undo", branch, ())

    def redo(self, branch):
        old = self.text(branch)
        self.branch_of(branch).step_forth()
        return self.changed(old, "redo", branch, ())

    def take_over(self, branch, other):
        old = self.text(branch)
        self.branch_of(branch).change(self.text(other))
        return self.changed(old, "take_over", branch, (other,))

    def parted(self, branch, other):
        return first_changed(self.text(branch), self.text(other))

    def table(self):
        return tuple(self.results.items())

    def fresh(self, branch, step):
        """The result, and the number of different operations, computed from nothing."""
        text = self.text_with_step(branch, step)
        runner = TableRunner({})
        result = runner.run_text(text, step)
        return (result, len(runner.new))

    def wanted(self, branch, step):
        """The number of different operations that are not in the table."""
        text = self.text_with_step(branch, step)
        runner = TableRunner(self.results)
        runner.run_text(text, step)
        return len(runner.new)

    def ask(self, branch, step):
        """The result, and the number of entries that it put into the table."""
        self.check_closed()
        text = self.text_with_step(branch, step)
        self.check_bills()
        runner = TableRunner(self.results)
        result = runner.run_text(text, step)
        return (result, self.charge(branch, step, runner.new))

    def keep_newest(self, count):
        """Returns the numbers of kept and of dropped entries."""
        operations = list(self.results)
        return self.keep(operations[max(len(operations) - count, 0) :])

    def keep_needed(self):
        """Returns the numbers of kept and of dropped entries."""
        needed = {}
        for branch in self.branch_list:
            runner = TableRunner(self.results)
            runner.run_text(branch.now, step_count(branch.now[3]))
            for operation in runner.operations:
                needed[operation] = True
        return self.keep([operation for operation in self.results if operation in needed])

    def open_question(self, branch, step):
        self.check_closed()
        text = self.text_with_step(branch, step)
        self.check_bills()
        self.question = Question(branch, step, text)

    def give(self, worker):
        """Returns the operation that the worker gets, or None if nothing is wanted."""
        question = self.opened()
        if worker in question.held:
            raise Refused("worker busy")
        operation = question.choose(self.results)
        if operation is not None:
            question.held[worker] = operation
        return operation

    def done(self, worker):
        """Returns the result of the worker's operation."""
        question = self.opened()
        operation = self.held_by(worker)
        if operation not in self.results:
            if len(self.results) >= MOST_ENTRIES:
                raise Refused("table full")
            kind, numbers, matrices = operation
            self.results[operation] = operate(kind, numbers, matrices)
            question.count += 1
        del question.held[worker]
        return self.results[operation]

    def lost(self, worker):
        question = self.opened()
        self.held_by(worker)
        del question.held[worker]

    def finish(self):
        """The answer and the number of entries that were put in for it, or None if something is wanted."""
        question = self.opened()
        answer = question.answer(self.results)
        if answer is None:
            return None
        self.stop()
        return (answer, question.count)

    def stop(self):
        question = self.opened()
        self.bill_list.append((question.branch, question.step, question.count))
        self.question = None

    def test(self, branch, step):
        """The step of the fault or None, the loss of the tests or None, and the number of new entries."""
        text = self.text_for_tests(branch, step)
        runner = TableRunner(self.results)
        result = runner.run_text(text, step)
        if result[0] == "fault":
            return (result[1], None, self.charge(branch, step, runner.new))
        loss = runner.run_tests(text, result)
        return (None, loss, self.charge(branch, step, runner.new))

    def best(self, branch, step):
        """The first step of the least loss and this loss, or None for both, and the number of new entries."""
        text = self.text_for_tests(branch, step)
        runner = TableRunner(self.results)
        losses = runner.losses_of_tests(text, step)
        count = self.charge(branch, step, runner.new)
        found = [loss for loss in losses if loss is not None]
        if found == []:
            return (None, None, count)
        least = min(found)
        return (losses.index(least), least, count)

    def bills(self):
        return tuple(self.bill_list)

    def uses(self, branch, source, name):
        """The tuple of the numbers of the steps whose documents include the document."""
        text = self.text(branch)
        return steps_with(text, self.document_of(text, source, name))

    def hangs(self, branch, step, source, name):
        """Whether the state behind the step can depend on the document."""
        text = self.text_with_step(branch, step)
        return state_hangs_on(text, step, self.document_of(text, source, name))

    def transcript(self, branch, step):
        """The tuple of the results of the needed lines of the step, or None if the run faults."""
        return transcript_of(self.text_with_executed_step(branch, step), step)

    def dispute(self, branch, step, first, second):
        """Which claim is right, the index at which they differ, and the number of comparisons."""
        return judged(self.text_with_executed_step(branch, step), step, first, second)

    def journal(self):
        return "".join([f"{line}\n" for line in self.journal_lines])

    def call(self, name, branch, arguments):
        """Do a call that a journal tells."""
        if name == "fork":
            return self.fork(branch)
        if name == "undo":
            return self.undo(branch)
        if name == "redo":
            return self.redo(branch)
        if name == "take_over":
            return self.take_over(branch, arguments[0])
        return self.edit(branch, name, arguments)

    def branch_of(self, branch):
        if branch < 0 or branch >= len(self.branch_list):
            raise Refused("no branch")
        return self.branch_list[branch]

    def text_with_step(self, branch, step):
        """The text of the branch, which has to have the step."""
        text = self.text(branch)
        if step < 0 or step > step_count(text[3]):
            raise Refused("no step")
        return text

    def text_with_executed_step(self, branch, step):
        """The same for steps from 1 on."""
        text = self.text_with_step(branch, step)
        if step == 0:
            raise Refused("no step")
        return text

    def text_for_tests(self, branch, step):
        """The text of the branch for a question about its tests, if such a question can be asked."""
        self.check_closed()
        text = self.text_with_step(branch, step)
        if text[4] == ():
            raise Refused("no tests")
        self.check_bills()
        return text

    def document_of(self, text, source, name):
        """The pair of the source's index and the document's name."""
        at = source_place(text, source)
        document_place(text[2][at][2], name)
        return (at, name)

    def check_closed(self):
        if self.question is not None:
            raise Refused("question open")

    def check_bills(self):
        if len(self.bill_list) >= MOST_BILLS:
            raise Refused("too many questions")

    def opened(self):
        """The open question."""
        if self.question is None:
            raise Refused("no question")
        return self.question

    def held_by(self, worker):
        """The operation that the worker has."""
        held = self.opened().held
        if worker not in held:
            raise Refused("worker idle")
        return held[worker]

    def charge(self, branch, step, new):
        """Put the results of a question into the table and make its bill; returns their number."""
        if len(self.results) + len(new) > MOST_ENTRIES:
            raise Refused("table full")
        for operation, result in new.items():
            self.results[operation] = result
        self.bill_list.append((branch, step, len(new)))
        return len(new)

    def keep(self, operations):
        """Drop all other entries; returns the numbers of kept and of dropped ones."""
        dropped = len(self.results) - len(operations)
        self.results = {operation: self.results[operation] for operation in operations}
        if self.question is not None:
            self.question.begin_anew()
        return (len(operations), dropped)

    def note(self, name, branch, arguments):
        self.journal_lines.append(written_call(name, branch, arguments))

    def changed(self, old, name, branch, arguments):
        """Note a call that has changed a branch; returns the number of the first state that can differ."""
        self.note(name, branch, arguments)
        return first_changed(old, self.text(branch))
