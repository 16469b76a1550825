"""Section 34: the open question and its workers."""

import random
import unittest

from lasttext.matrices import operate
from lasttext.programtexts import read_program
from lasttext.runs import asked, run
from lasttext.studio import Studio
from tests.reference import standing
from tests.samples import CHAIN, PLAIN, cell, full_studio, random_edit, random_studio, refusal, steps_in
from tests.test_questions import Questions

ONE = ("fill", (1, 1, 1), ())


def times(a, b):
    return ("times", (), (cell(a), cell(b)))


def give_and_do_all(studio, workers=1):
    """Let workers do what is wanted, one after the other, until nothing is."""
    count = 0
    while studio.give(count % workers) is not None:
        studio.done(count % workers)
        count += 1
    return count


class OpenAndClose(Questions):
    def test_step_0(self):
        studio = self.example()
        self.assertIsNone(studio.open_question(0, 0))
        self.assertIsNone(studio.give(0))
        self.assertEqual(studio.finish(), (("state", (cell(2),), (cell(0),), (cell(0),), ()), 0))
        self.assertEqual(studio.bills(), ((0, 0, 0),))
        self.refuses("no question", studio, "finish")

    def test_one_worker(self):
        studio = self.example()
        self.assertIsNone(studio.open_question(0, 2))
        self.assertIsNone(studio.finish())
        self.assertEqual((studio.bills(), studio.table()), ((), ()))
        operation = studio.give(0)
        self.assertEqual(operation, times(2, 3))
        self.assertEqual((studio.table(), studio.bills()), ((), ()))
        self.assertEqual(studio.done(0), cell(6))
        self.assertEqual(studio.table(), ((times(2, 3), cell(6)),))
        self.assertEqual(give_and_do_all(studio), 7)
        self.assertEqual([entry[0] for entry in studio.table()], list(dict.fromkeys(asked(studio.text(0), 2))))
        self.assertEqual(studio.bills(), ())
        self.assertEqual(studio.finish(), (run(studio.text(0), 2), 8))
        self.assertEqual(studio.bills(), ((0, 2, 8),))
        self.assertEqual(studio.ask(0, 2)[1], 0)

    def test_what_is_in_the_table_is_not_wanted(self):
        studio = self.example()
        studio.ask(0, 1)
        studio.open_question(0, 2)
        self.assertEqual(studio.give(5), times(0, 3))
        studio.done(5)
        self.assertEqual(studio.give(5), ("sub", (), (cell(0), cell(2))))
        studio.done(5)
        self.assertEqual(studio.finish(), (run(studio.text(0), 2), 2))
        self.assertEqual(studio.bills(), ((0, 1, 6), (0, 2, 2)))
        studio.open_question(0, 2)
        self.assertIsNone(studio.give(0))
        self.assertEqual(studio.finish(), (run(studio.text(0), 2), 0))

    def test_stop(self):
        studio = self.example()
        studio.open_question(0, 2)
        studio.give(0)
        studio.done(0)
        studio.give(1)
        self.assertIsNone(studio.stop())
        self.assertEqual(studio.bills(), ((0, 2, 1),))
        for name, arguments in (("give", (1,)), ("done", (1,)), ("lost", (1,)), ("finish", ()), ("stop", ())):
            self.refuses("no question", studio, name, *arguments)
        # The next question knows nothing of the worker's operation.
        studio.open_question(0, 1)
        self.refuses("worker idle", studio, "done", 1)
        self.assertEqual(studio.give(0), ONE)
        studio.stop()
        self.assertEqual(studio.bills(), ((0, 2, 1), (0, 1, 0)))

    def test_finish_forgets_the_workers(self):
        studio = self.example()
        studio.open_question(0, 1)
        self.assertEqual(studio.give(3), times(2, 3))
        give_and_do_all(studio)
        self.assertEqual(studio.finish()[1], 6)
        self.refuses("no question", studio, "done", 3)
        studio.open_question(0, 2)
        self.refuses("worker idle", studio, "done", 3)

    def test_reasons_of_open_question(self):
        studio = self.example()
        for branch in (1, -1):
            self.refuses("no branch", studio, "open_question", branch, 3)
        for step in (3, -1):
            self.refuses("no step", studio, "open_question", 0, step)
        studio.open_question(0, 1)
        for branch, step in ((0, 1), (1, 1), (0, 3)):
            self.refuses("question open", studio, "open_question", branch, step)

    def test_reasons_with_an_open_question(self):
        studio = self.example()
        studio.open_question(0, 1)
        for worker in range(6):
            self.refuses("worker idle", studio, "done", worker)
            self.refuses("worker idle", studio, "lost", worker)
        studio.give(2)
        self.refuses("worker busy", studio, "give", 2)
        self.refuses("worker idle", studio, "done", 3)
        self.refuses("worker idle", studio, "lost", 3)
        for name in ("ask", "test", "best", "open_question"):
            self.refuses("question open", studio, name, 0, 0)
        give_and_do_all(studio)
        # A worker is busy also where nothing is wanted any more.
        self.refuses("worker busy", studio, "give", 2)
        self.assertIsNone(studio.give(3))
        self.refuses("worker idle", studio, "done", 3)


class Workers(Questions):
    def test_each_worker_gets_another_operation_and_then_the_first_one(self):
        studio = self.example(((1, 2, (1,), PLAIN),), (3, 4))
        studio.open_question(0, 1)
        wanted = standing(studio.text(0), 1, {})[1]
        # Two losses, and the `fill` that both documents ask.
        self.assertEqual([len(wanted), wanted[1]], [3, ONE])
        self.assertEqual([studio.give(worker) for worker in (5, 0, 3)], wanted)
        self.assertEqual([studio.give(1), studio.give(2), studio.give(4)], [wanted[0]] * 3)
        # The first result counts; the others find it there.
        self.assertEqual(studio.done(2), operate(*wanted[0]))
        self.assertEqual(studio.done(5), operate(*wanted[0]))
        self.assertEqual(len(studio.table()), 1)
        # Workers 1 and 4 have an operation that is not wanted any more; 0 and 3 have all that is.
        self.assertEqual([studio.give(2), studio.give(5)], [wanted[1]] * 2)
        self.assertEqual(studio.done(0), cell(1))
        # With the `fill`, the gradients of both documents are wanted.
        now = standing(studio.text(0), 1, dict(studio.table()))[1]
        self.assertEqual([now[0][0], now[1], now[2][0]], ["times", wanted[2], "times"])
        self.assertEqual([studio.give(0), len(now)], [now[0], 3])
        self.assertIsNone(studio.lost(2))
        self.assertEqual(studio.give(2), now[2])
        for worker in range(6):
            refusal(studio.done, worker)
        give_and_do_all(studio, 6)
        self.assertEqual(studio.finish(), (run(studio.text(0), 1), len(studio.table())))

    def test_a_lost_operation_is_given_again(self):
        studio = self.example()
        studio.open_question(0, 1)
        self.assertEqual([studio.give(0), studio.give(1)], [times(2, 3), ONE])
        self.assertIsNone(studio.lost(0))
        self.assertEqual(studio.table(), ())
        self.refuses("worker idle", studio, "lost", 0)
        self.assertEqual(studio.give(4), times(2, 3))
        self.assertEqual(studio.give(0), times(2, 3))
        studio.lost(4)
        self.assertEqual([studio.done(0), studio.done(1)], [cell(6), cell(1)])
        self.assertEqual([operation for operation, _ in studio.table()], [times(2, 3), ONE])

    def test_a_line_that_is_applied_to_a_value_that_is_not_known_is_left_out(self):
        studio = Studio(CHAIN, (cell(1),))
        studio.edit(0, "put_source", ("a", 5))
        studio.edit(0, "put_document", ("a", "d", (cell(2),)))
        studio.edit(0, "put_segment", (0, (2, 1, (1,), PLAIN)))
        studio.open_question(0, 2)
        # Of the chain the first addition alone can be done; the gradient is the `fill`.
        self.assertEqual([studio.give(0), studio.give(1)], [("add", (), (cell(1), cell(2))), ONE])
        self.assertEqual(studio.give(2), ("add", (), (cell(1), cell(2))))
        self.assertEqual(studio.done(1), cell(1))
        # No state is known, and still what does not hang on the loss goes on.
        self.assertEqual(studio.give(1), ("stretch", (1,), (cell(1),)))
        studio.done(1)
        self.assertEqual(studio.give(1), ("scale", (1,), (cell(1),)))
        studio.done(1)
        self.assertEqual(studio.give(1), ("sub", (), (cell(1), cell(1))))
        studio.done(1)
        # The next step is not looked at, though its weight is known.
        self.assertEqual(studio.give(1), ("add", (), (cell(1), cell(2))))
        self.assertEqual([studio.done(0), studio.done(1), studio.done(2)], [cell(3)] * 3)
        self.assertEqual(studio.give(0), ("add", (), (cell(3), cell(2))))
        studio.lost(0)
        give_and_do_all(studio)
        self.assertEqual(studio.finish(), (run(studio.text(0), 2), len(studio.table())))

    def test_a_fault_that_the_table_shows_although_other_operations_are_wanted(self):
        program = read_program("param w 1 1\ninput x 1 1\nk = stretch w 1000\nt = times x x\ny = add k t\nloss y\n")
        studio = self.example(((1, 1, (1,), PLAIN), (2, 1, (1,), PLAIN)), (5,), start=10000, program=program)
        studio.open_question(0, 3)
        first, second, third = [studio.give(worker) for worker in range(3)]
        self.assertEqual([first[0], second, third], ["stretch", times(5, 5), ONE])
        self.assertEqual(studio.done(1), cell(25))
        self.assertIsNone(studio.finish())
        self.assertIsNone(studio.done(0))
        self.assertEqual(studio.table()[-1], (first, None))
        # Nothing is wanted now, but worker 2 still has its operation.
        self.assertIsNone(studio.give(0))
        self.refuses("worker busy", studio, "give", 2)
        self.assertEqual(studio.done(2), cell(1))
        self.assertEqual(studio.finish(), (("fault", 1), 3))
        self.assertEqual(studio.bills(), ((0, 3, 3),))
        self.assertEqual(run(studio.text(0), 3), ("fault", 1))

    def test_a_fault_at_a_later_step(self):
        studio = self.faulting()
        studio.open_question(0, 3)
        count = give_and_do_all(studio, 2)
        self.assertEqual(studio.finish(), (("fault", 2), count))
        studio.open_question(0, 1)
        self.assertEqual(studio.finish(), (run(studio.text(0), 1), 0))
        studio.open_question(0, 2)
        self.assertEqual(studio.finish(), (("fault", 2), 0))

    def test_a_sixth_worker_and_more(self):
        studio = self.example()
        studio.open_question(0, 1)
        self.assertEqual(studio.give(6), times(2, 3))
        self.assertEqual(studio.done(6), cell(6))


class Meanwhile(Questions):
    """What is done beside an open question."""

    def test_edits_and_undos_do_not_change_its_text(self):
        studio = self.example()
        text = studio.text(0)
        studio.open_question(0, 2)
        studio.give(0)
        studio.edit(0, "set_start", ("w", cell(9)))
        studio.edit(0, "drop_segment", (0,))
        studio.done(0)
        self.assertEqual(studio.give(0), ONE)
        studio.done(0)
        studio.undo(0)
        give_and_do_all(studio)
        self.assertEqual(studio.finish(), (run(text, 2), 8))
        self.assertEqual(studio.bills(), ((0, 2, 8),))
        self.assertNotEqual(studio.ask(0, 2)[0], run(text, 2))

    def test_a_branch_that_takes_another_over(self):
        studio = self.example()
        studio.fork(0)
        studio.edit(1, "set_start", ("w", cell(9)))
        text = studio.text(1)
        studio.open_question(1, 1)
        studio.take_over(1, 0)
        give_and_do_all(studio)
        self.assertEqual(studio.finish(), (run(text, 1), 6))
        self.assertEqual(studio.bills(), ((1, 1, 6),))

    def test_drops_of_entries(self):
        studio = self.example()
        studio.open_question(0, 2)
        give_and_do_all(studio)
        self.assertEqual(studio.keep_newest(0), (0, 8))
        self.assertIsNone(studio.finish())
        self.assertEqual(studio.give(0), times(2, 3))
        studio.done(0)
        give_and_do_all(studio)
        # What was computed again was put in again.
        self.assertEqual(studio.finish(), (run(studio.text(0), 2), 16))
        self.assertEqual((studio.bills(), len(studio.table())), (((0, 2, 16),), 8))

    def test_a_drop_of_some_entries_wants_these_alone(self):
        studio = self.example()
        studio.ask(0, 2)
        studio.open_question(0, 2)
        self.assertIsNone(studio.give(0))
        studio.keep_newest(7)
        self.assertEqual(studio.give(0), times(2, 3))
        self.assertEqual(studio.give(1), times(2, 3))
        studio.lost(1)
        studio.done(0)
        self.assertIsNone(studio.give(0))
        self.assertEqual(studio.finish(), (run(studio.text(0), 2), 1))

    def test_a_fault_that_is_dropped(self):
        studio = self.faulting()
        studio.ask(0, 2)
        studio.open_question(0, 3)
        self.assertIsNone(studio.give(0))
        studio.edit(0, "drop_segment", (1,))
        kept, dropped = studio.keep_needed()
        self.assertEqual(dropped, 1)
        self.assertIsNone(studio.finish())
        self.assertEqual(studio.give(0), ("stretch", (1000,), (cell(10000),)))
        self.assertIsNone(studio.done(0))
        self.assertEqual(studio.finish(), (("fault", 2), 1))

    def test_keep_needed_does_not_look_at_the_open_question(self):
        studio = self.example()
        studio.open_question(0, 1)
        give_and_do_all(studio)
        studio.edit(0, "set_start", ("w", cell(9)))
        # The product of 2 and 3 and the last subtraction are needed by the old text alone.
        self.assertEqual(studio.keep_needed(), (4, 2))
        self.assertEqual(studio.give(0), times(2, 3))

    def test_done_puts_an_operation_in_that_is_not_wanted_any_more(self):
        studio = self.example()
        studio.open_question(0, 1)
        studio.give(0)
        studio.give(1)
        studio.done(1)
        self.assertEqual([studio.give(1)[0], studio.done(1), len(studio.table())], ["times", cell(3), 2])
        studio.keep_newest(0)
        self.assertEqual(studio.done(0), cell(6))
        self.assertEqual(studio.table(), ((times(2, 3), cell(6)),))
        studio.stop()
        self.assertEqual(studio.bills(), ((0, 1, 3),))

    def test_looks_do_not_change_it(self):
        studio = self.example()
        studio.open_question(0, 2)
        studio.give(0)
        studio.fresh(0, 2)
        studio.transcript(0, 1)
        self.assertEqual(studio.wanted(0, 2), 8)
        self.assertEqual([studio.give(1), studio.table()], [ONE, ()])


class Full(Questions):
    def test_20000_entries(self):
        studio = full_studio(0)
        studio.ask(0, 1)
        self.assertEqual(len(studio.table()), 20000)
        studio.open_question(0, 2)
        first = studio.give(0)
        self.refuses("table full", studio, "done", 0)
        # The worker still has it.
        self.refuses("worker busy", studio, "give", 0)
        self.refuses("worker idle", studio, "done", 1)
        studio.keep_newest(19999)
        self.assertEqual(studio.done(0), operate(*first))
        self.assertEqual(studio.table()[-1], (first, operate(*first)))
        studio.give(0)
        self.refuses("table full", studio, "done", 0)
        self.assertIsNone(studio.lost(0))
        studio.stop()
        self.assertEqual(studio.bills()[-1], (0, 2, 1))

    def test_an_operation_that_is_there_already(self):
        studio = full_studio(0)
        studio.ask(0, 1)
        studio.keep_newest(19999)
        studio.open_question(0, 2)
        given = {}
        while True:
            worker = len(given)
            given[worker] = studio.give(worker)
            if list(given.values()).count(given[worker]) == 2:
                break
        same = [worker for worker in given if given[worker] == given[len(given) - 1]]
        studio.done(same[0])
        self.assertEqual(len(studio.table()), 20000)
        self.assertEqual(studio.done(same[1]), operate(*given[same[1]]))
        self.assertEqual(len(studio.table()), 20000)


class Rows(Questions):
    def test_random_calls_by_the_words_of_the_section(self):
        chance = random.Random(34)
        faults = finished = 0
        for _ in range(60):
            studio = random_studio(chance, chance.choice((3, 3, 500)))
            table = {}
            if chance.random() < 0.3:
                studio.ask(0, chance.randint(0, steps_in(studio.text(0))))
                table = dict(studio.table())
            bills = list(studio.bills())
            step = chance.randint(0, steps_in(studio.text(0)))
            text = studio.text(0)
            studio.open_question(0, step)
            held, count = {}, 0
            drops = chance.choice((0, 0, 2))
            for _ in range(3000):
                answer, wanted = standing(text, step, table)
                worker = chance.randrange(6)
                kind = chance.choice(("give", "give", "give", "done", "done", "done", "lost", "finish", "other"))
                if kind == "give" and worker not in held:
                    free = [operation for operation in wanted if operation not in held.values()]
                    expected = (free + wanted + [None])[0]
                    self.assertEqual(studio.give(worker), expected)
                    if expected is not None:
                        held[worker] = expected
                elif kind == "give":
                    self.refuses("worker busy", studio, "give", worker)
                elif kind == "finish" and answer is not None:
                    self.assertEqual(studio.finish(), (answer, count))
                    self.assertEqual(answer, run(text, step))
                    faults += answer[0] == "fault"
                    finished += 1
                    bills.append((0, step, count))
                    break
                elif kind == "finish":
                    self.assertIsNone(studio.finish())
                elif kind != "other" and worker not in held:
                    self.refuses("worker idle", studio, kind, worker)
                elif kind == "lost":
                    self.assertIsNone(studio.lost(worker))
                    del held[worker]
                elif kind == "done":
                    operation = held.pop(worker)
                    count += operation not in table
                    table.setdefault(operation, operate(*operation))
                    self.assertEqual(studio.done(worker), table[operation])
                elif chance.random() < 0.3:
                    refusal(studio.edit, 0, *random_edit(studio.text(0), chance))
                    refusal(studio.undo, 0)
                elif drops > 0 and chance.random() < 0.1:
                    drops -= 1
                    kept = chance.randint(0, len(table))
                    studio.keep_newest(kept)
                    table = dict(list(table.items())[len(table) - kept :])
                self.assertEqual((studio.table(), studio.bills()), (tuple(table.items()), tuple(bills)))
        self.assertTrue(finished >= 50 and faults >= 10, (finished, faults))


if __name__ == "__main__":
    unittest.main()
