"""Sections 31 to 33 and 36: the table, questions, keeping, and bills."""

import importlib
import pathlib
import random
import unittest
from unittest import mock

import lasttext
from lasttext.matrices import operate
from lasttext.runs import asked, run
from lasttext.studio import Studio
from tests.reference import Reference, different
from tests.samples import (
    EXAMPLE, FULL, PLAIN, cell, full_studio, random_edit, random_studio, refusal, steps_in,
)
from tests.test_branches import Cases, told

MOST = 9999999


def modules_with_operate():
    names = sorted(path.stem for path in pathlib.Path(lasttext.__file__).parent.glob("*.py"))
    found = [importlib.import_module(f"lasttext.{name}") for name in names if not name.startswith("_")]
    return [module for module in found if hasattr(module, "operate")]


class Counted:
    """Counts the operations that are done inside of a `with`."""

    def __enter__(self):
        self.operations = []
        self.patches = [mock.patch.object(module, "operate", self.count) for module in modules_with_operate()]
        for patch in self.patches:
            patch.start()
        return self

    def __exit__(self, *_):
        for patch in self.patches:
            patch.stop()

    def count(self, *operation):
        self.operations.append(operation)
        return operate(*operation)


class Questions(Cases):
    def example(self, segments=((2, 1, (1,), PLAIN),), entries=(3,), start=2, program=EXAMPLE):
        studio = Studio(program, (cell(start),))
        studio.edit(0, "put_source", ("a", 5))
        for k, entry in enumerate(entries):
            studio.edit(0, "put_document", ("a", f"d{k}", (cell(entry),)))
        for place, segment in enumerate(segments):
            studio.edit(0, "put_segment", (place, segment))
        return studio

    def faulting(self):
        """A studio whose run faults at step 2."""
        return self.example(((1, 1, (1,), (0, 1, 0, 0, 0)), (2, 1, (1,), (0, 1, 0, 1000, 0))), (0,), 10000)


class Ask(Questions):
    def test_step_0(self):
        studio = self.example()
        state = ("state", (cell(2),), (cell(0),), (cell(0),), ())
        self.assertEqual(studio.fresh(0, 0), (state, 0))
        self.assertEqual(studio.wanted(0, 0), 0)
        self.assertEqual(studio.ask(0, 0), (state, 0))
        self.assertEqual((studio.table(), studio.bills()), ((), ((0, 0, 0),)))

    def test_the_table_by_hand(self):
        studio = self.example()
        studio.ask(0, 1)
        first = (
            (("times", (), (cell(2), cell(3))), cell(6)),
            (("fill", (1, 1, 1), ()), cell(1)),
            (("times", (), (cell(1), cell(3))), cell(3)),
            (("stretch", (1,), (cell(3),)), cell(3)),
            (("scale", (1,), (cell(3),)), cell(2)),
            (("sub", (), (cell(2), cell(2))), cell(0)),
        )
        self.assertEqual(studio.table(), first)
        studio.ask(0, 2)
        second = ((("times", (), (cell(0), cell(3))), cell(0)), (("sub", (), (cell(0), cell(2))), cell(-2)))
        self.assertEqual(studio.table(), first + second)

    def test_an_operation_that_is_asked_twice_in_one_question(self):
        studio = self.example(((1, 3, (1,), PLAIN),))
        text = studio.text(0)
        operations = asked(text, 1)
        self.assertEqual(operations.count(("fill", (1, 1, 1), ())), 3)
        count = len(different(operations))
        self.assertLess(count, len(operations))
        self.assertEqual([studio.fresh(0, 1)[1], studio.wanted(0, 1)], [count, count])
        expected = (run(text, 1), count)
        with Counted() as counted:
            self.assertEqual(studio.ask(0, 1), expected)
        self.assertEqual(tuple(counted.operations), different(operations))
        self.assertEqual(tuple(entry[0] for entry in studio.table()), different(operations))

    def test_an_operation_that_is_asked_by_two_questions(self):
        studio = self.example(((3, 1, (1,), PLAIN),))
        studio.ask(0, 2)
        table = studio.table()
        with Counted() as counted:
            self.assertEqual(studio.ask(0, 2)[1], 0)
            self.assertEqual(studio.ask(0, 1)[1], 0)
            self.assertEqual(studio.ask(0, 0)[1], 0)
        self.assertEqual((counted.operations, studio.table()), ([], table))
        count = studio.wanted(0, 3)
        with Counted() as counted:
            self.assertEqual(studio.ask(0, 3)[1], count)
        self.assertEqual(len(counted.operations), count)
        self.assertEqual(studio.table()[: len(table)], table)
        self.assertEqual(studio.bills(), ((0, 2, len(table)), (0, 2, 0), (0, 1, 0), (0, 0, 0), (0, 3, count)))

    def test_a_fork_and_an_edit_ask_what_is_new_alone(self):
        studio = self.example(((4, 2, (1,), FULL),), (3, 4, 5))
        studio.ask(0, 4)
        studio.fork(0)
        self.assertEqual(studio.ask(1, 4)[1], 0)
        studio.edit(1, "put_segment", (1, (1, 1, (1,), PLAIN)))
        operations = different(asked(studio.text(1), 5))
        known = [entry[0] for entry in studio.table()]
        new = [operation for operation in operations if operation not in known]
        self.assertEqual(studio.wanted(1, 5), len(new))
        self.assertEqual(studio.ask(1, 5), (run(studio.text(1), 5), len(new)))
        self.assertEqual([entry[0] for entry in studio.table()], known + new)
        self.assertEqual(studio.wanted(0, 4), 0)

    def test_runs_that_fault(self):
        studio = self.faulting()
        text = studio.text(0)
        self.assertEqual([run(text, step)[0] for step in range(4)], ["state", "state", "fault", "fault"])
        count = len(different(asked(text, 2)))
        self.assertEqual(studio.fresh(0, 3), (("fault", 2), count))
        self.assertEqual(studio.wanted(0, 3), count)
        self.assertEqual(studio.ask(0, 3), (("fault", 2), count))
        self.assertEqual(studio.table()[-1], (("stretch", (1000,), (cell(10000),)), None))
        self.assertEqual([result is None for _, result in studio.table()], [False] * (count - 1) + [True])
        # The fault is kept, too.
        with Counted() as counted:
            self.assertEqual(studio.ask(0, 2), (("fault", 2), 0))
            self.assertEqual(studio.wanted(0, 2), 0)
        self.assertEqual(counted.operations, [])
        self.assertEqual(studio.fresh(0, 2), (("fault", 2), count))

    def test_fresh_uses_and_changes_nothing(self):
        studio = self.example()
        count = studio.ask(0, 2)[1]
        before = told(studio)
        expected = (run(studio.text(0), 2), count)
        with Counted() as counted:
            self.assertEqual(studio.fresh(0, 2), expected)
        self.assertEqual(set(counted.operations), set(asked(studio.text(0), 2)))
        self.assertEqual(told(studio), before)

    def test_wanted_changes_nothing(self):
        studio = self.example()
        studio.ask(0, 1)
        before = told(studio)
        self.assertEqual(studio.wanted(0, 2), 2)
        self.assertEqual(studio.wanted(0, 2), 2)
        self.assertEqual(told(studio), before)

    def test_kinds_of_values(self):
        studio = self.example()
        found = studio.ask(0, 1)
        self.assertEqual([type(found), type(found[0]), type(found[1])], [tuple, tuple, int])
        self.assertEqual([type(studio.table()), type(studio.bills()), type(studio.wanted(0, 2))], [tuple, tuple, int])
        for entry in studio.table():
            self.assertEqual([type(entry), type(entry[0]), len(entry), len(entry[0])], [tuple, tuple, 2, 3])
        # What was told before does not change.
        table, bills = studio.table(), studio.bills()
        studio.ask(0, 2)
        self.assertEqual([len(table), len(bills)], [6, 1])


class Reasons(Questions):
    def test_no_branch_and_no_step(self):
        studio = self.example()
        for name in ("fresh", "wanted", "ask"):
            for branch in (1, -1, 6):
                self.refuses("no branch", studio, name, branch, 0)
                self.refuses("no branch", studio, name, branch, 3)
            for step in (3, 4, 48, 49, -1):
                self.refuses("no step", studio, name, 0, step)
        studio = Studio(EXAMPLE, (cell(2),))
        for name in ("fresh", "wanted", "ask"):
            self.refuses("no step", studio, name, 0, 1)
        # Steps behind a fault are steps.
        self.assertEqual(self.faulting().ask(0, 3)[0], ("fault", 2))
        self.refuses("no step", self.faulting(), "ask", 0, 4)

    def test_a_question_that_is_open(self):
        studio = self.example()
        studio.open_question(0, 1)
        for branch, step in ((0, 1), (1, 1), (0, 3)):
            self.refuses("question open", studio, "ask", branch, step)
        self.assertEqual([studio.fresh(0, 1)[1], studio.wanted(0, 1)], [6, 6])
        self.refuses("no branch", studio, "fresh", 1, 1)
        self.refuses("no step", studio, "wanted", 0, 3)
        studio.stop()
        self.assertEqual(studio.ask(0, 1)[1], 6)

    def test_1000_bills(self):
        studio = self.example()
        studio.edit(0, "put_test", ("t", (cell(1),)))
        for _ in range(999):
            studio.ask(0, 0)
        # An open question has no bill yet.
        studio.open_question(0, 0)
        studio.finish()
        self.assertEqual(len(studio.bills()), 1000)
        for name in ("ask", "test", "best", "open_question"):
            self.refuses("too many questions", studio, name, 0, 0)
            self.refuses("too many questions", studio, name, 0, 2)
            self.refuses("no step", studio, name, 0, 3)
            self.refuses("no branch", studio, name, 1, 3)
        self.assertEqual([studio.fresh(0, 2)[1], studio.wanted(0, 2)], [8, 8])
        studio.edit(0, "drop_test", ("t",))
        for name in ("test", "best"):
            self.refuses("no tests", studio, name, 0, 0)
        self.refuses("no question", studio, "stop")

    def test_20000_entries(self):
        studio = full_studio(0)
        count = studio.wanted(0, 1)
        self.assertEqual(len(studio.table()) + count, 20000)
        self.refuses("table full", studio, "ask", 0, 2)
        self.assertEqual(studio.ask(0, 1)[1], count)
        self.assertEqual(len(studio.table()), 20000)
        # What is in the table can still be asked.
        self.assertEqual(studio.ask(0, 1)[1], 0)
        self.refuses("table full", studio, "ask", 0, 2)
        self.refuses("no step", studio, "ask", 0, 49)
        self.refuses("no branch", studio, "ask", 1, 49)
        self.assertEqual(studio.fresh(0, 2)[0], run(studio.text(0), 2))
        self.assertGreater(studio.wanted(0, 2), 0)
        studio.open_question(0, 1)
        self.refuses("question open", studio, "ask", 0, 2)

    def test_one_entry_too_many(self):
        studio = full_studio(1)
        self.refuses("table full", studio, "ask", 0, 1)
        studio.keep_newest(len(studio.table()) - 1)
        self.assertEqual(studio.ask(0, 1)[1] + studio.bills()[-1][2], 2 * studio.bills()[-1][2])
        self.assertEqual(len(studio.table()), 20000)

    def test_too_many_questions_come_before_a_full_table(self):
        studio = full_studio(1)
        while len(studio.bills()) < 1000:
            studio.ask(0, 0)
        self.refuses("too many questions", studio, "ask", 0, 1)


class Keeping(Questions):
    def test_none_some_and_all(self):
        for count in range(12):
            studio = self.example()
            studio.ask(0, 2)
            table = studio.table()
            kept = min(count, 8)
            self.assertEqual(studio.keep_newest(count), (kept, 8 - kept))
            self.assertEqual(studio.table(), table[8 - kept :])
            self.assertEqual(studio.bills(), ((0, 2, 8),))
        studio = self.example()
        self.assertEqual([studio.keep_newest(0), studio.keep_newest(3)], [(0, 0), (0, 0)])
        self.assertEqual(studio.keep_needed(), (0, 0))

    def test_a_question_behind_a_drop(self):
        studio = self.example()
        studio.ask(0, 2)
        table = studio.table()
        studio.keep_newest(3)
        self.assertEqual(studio.wanted(0, 2), 5)
        # Dropped entries are computed again, and stand behind the others.
        self.assertEqual(studio.ask(0, 2), (run(studio.text(0), 2), 5))
        self.assertEqual(studio.table(), table[5:] + table[:5])
        self.assertEqual(studio.bills(), ((0, 2, 8), (0, 2, 5)))

    def test_keep_needed_of_all_branches_and_all_steps(self):
        studio = self.example()
        studio.edit(0, "put_test", ("t", (cell(5),)))
        studio.test(0, 1)
        studio.fork(0)
        studio.edit(1, "set_start", ("w", cell(7)))
        studio.ask(1, 2)
        studio.fork(1)
        studio.edit(1, "set_start", ("w", cell(8)))
        studio.ask(1, 1)
        table = studio.table()
        needed = set()
        for branch in range(3):
            needed.update(asked(studio.text(branch), 2))
        expected = tuple(entry for entry in table if entry[0] in needed)
        # The operation of the test is needed by no run.
        self.assertEqual([entry[0] for entry in table if entry[0] not in needed], [("times", (), (cell(0), cell(5)))])
        self.assertEqual(studio.keep_needed(), (len(expected), 1))
        self.assertEqual(studio.table(), expected)
        self.assertEqual(studio.keep_needed(), (len(expected), 0))
        # The branch 2 alone has the start 7.
        studio.edit(2, "set_start", ("w", cell(2)))
        needed = set(asked(studio.text(0), 2)) | set(asked(studio.text(1), 2))
        kept = tuple(entry for entry in expected if entry[0] in needed)
        self.assertLess(len(kept), len(expected))
        self.assertEqual(studio.keep_needed(), (len(kept), len(expected) - len(kept)))
        self.assertEqual(studio.table(), kept)

    def test_keep_needed_does_not_need_that_all_was_asked(self):
        studio = self.example(((9, 1, (1,), PLAIN),))
        studio.ask(0, 2)
        table = studio.table()
        self.assertEqual(studio.keep_needed(), (8, 0))
        self.assertEqual(studio.table(), table)
        studio.keep_newest(3)
        self.assertEqual(studio.keep_needed(), (3, 0))
        # What faults is needed, and what is behind the fault is not.
        studio = self.faulting()
        studio.ask(0, 3)
        count = len(studio.table())
        self.assertEqual(studio.keep_needed(), (count, 0))
        studio.edit(0, "drop_segment", (1,))
        self.assertEqual(studio.keep_needed(), (count - 1, 1))
        self.assertNotIn(None, [result for _, result in studio.table()])

    def test_undone_texts_are_not_needed(self):
        studio = self.example()
        studio.ask(0, 2)
        studio.edit(0, "set_start", ("w", cell(7)))
        needed = set(asked(studio.text(0), 2))
        expected = tuple(entry for entry in studio.table() if entry[0] in needed)
        self.assertEqual(studio.keep_needed(), (len(expected), 8 - len(expected)))
        self.assertEqual(studio.table(), expected)


class Bills(Questions):
    def test_each_kind_of_question(self):
        studio = self.example()
        studio.edit(0, "put_test", ("t", (cell(5),)))
        studio.fork(0)
        self.assertEqual(studio.bills(), ())
        studio.ask(1, 1)
        studio.test(0, 1)
        studio.best(1, 2)
        studio.open_question(0, 2)
        self.assertEqual(len(studio.bills()), 3)
        studio.finish()
        studio.edit(0, "set_start", ("w", cell(9)))
        studio.open_question(0, 1)
        studio.give(3)
        studio.done(3)
        studio.stop()
        # In state 0 the test asks for 2 times 5, in state 2 for -2 times 5; 0 times 5 is there.
        self.assertEqual(studio.bills(), ((1, 1, 6), (0, 1, 1), (1, 2, 4), (0, 2, 0), (0, 1, 1)))
        self.assertEqual(sum(bill[2] for bill in studio.bills()), len(studio.table()))

    def test_refused_questions_and_looks_make_none(self):
        studio = self.example()
        studio.fresh(0, 2)
        studio.wanted(0, 2)
        studio.transcript(0, 1)
        self.refuses("no step", studio, "ask", 0, 3)
        self.refuses("no tests", studio, "test", 0, 1)
        studio.keep_newest(0)
        studio.keep_needed()
        self.assertEqual(studio.bills(), ())


class Rows(Questions):
    def test_random_questions_by_the_run_from_nothing(self):
        chance = random.Random(32)
        faults = 0
        for _ in range(40):
            studio = random_studio(chance, chance.choice((3, 3, 500)))
            table = {}
            for _ in range(12):
                kind = chance.choice(("edit", "ask", "ask", "ask", "fork", "keep", "undo"))
                branch = chance.randrange(studio.branches())
                text = studio.text(branch)
                if kind == "edit":
                    refusal(studio.edit, branch, *random_edit(text, chance))
                elif kind == "fork":
                    refusal(studio.fork, branch)
                elif kind == "undo":
                    refusal(studio.undo, branch)
                elif kind == "keep":
                    kept = chance.randint(0, len(table) + 1)
                    studio.keep_newest(kept)
                    table = dict(list(table.items())[max(0, len(table) - kept) :])
                else:
                    step = chance.randint(0, steps_in(text))
                    reference = Reference(text)
                    operations = different(reference.asked(step))
                    new = [operation for operation in operations if operation not in table]
                    result = reference.result(step)
                    faults += result[0] == "fault"
                    self.assertEqual(studio.fresh(branch, step), (result, len(operations)))
                    self.assertEqual(studio.wanted(branch, step), len(new))
                    self.assertEqual(studio.ask(branch, step), (result, len(new)))
                    table.update((operation, operate(*operation)) for operation in new)
                    self.assertEqual(studio.bills()[-1], (branch, step, len(new)))
                self.assertEqual(studio.table(), tuple(table.items()))
        self.assertGreater(faults, 10)


if __name__ == "__main__":
    unittest.main()
