"""Section 35: the loss of the tests, `test` and `best`."""

import random
import unittest

from lasttext.matrices import operate
from lasttext.runs import asked
from lasttext.studio import Studio
from tests.reference import Reference, different
from tests.samples import BARE, PICKS, PLAIN, cell, full_studio, random_edit, random_studio, refusal, steps_in
from tests.test_questions import Counted, Questions

MOST = 9999999


class Losses(Questions):
    def with_tests(self, tests, segments=((2, 1, (1,), PLAIN),), **more):
        studio = self.example(segments, **more)
        for k, entry in enumerate(tests):
            studio.edit(0, "put_test", (f"t{k}", (cell(entry),)))
        return studio


class Test(Losses):
    def test_one_test_by_hand(self):
        studio = self.with_tests((5,))
        self.assertEqual(studio.test(0, 0), (None, 10, 1))
        self.assertEqual(studio.table(), ((("times", (), (cell(2), cell(5))), cell(10)),))
        # The weight is 0 behind step 1, and -2 behind step 2.
        self.assertEqual(studio.test(0, 1), (None, 0, 7))
        self.assertEqual(studio.table()[-1], (("times", (), (cell(0), cell(5))), cell(0)))
        self.assertEqual([entry[0] for entry in studio.table()[1:7]], list(asked(studio.text(0), 1)))
        self.assertEqual(studio.test(0, 2), (None, -10, 3))
        self.assertEqual(studio.bills(), ((0, 0, 1), (0, 1, 7), (0, 2, 3)))
        self.assertEqual(studio.test(0, 2), (None, -10, 0))

    def test_several_tests_are_summed_as_a_tree(self):
        studio = self.with_tests((5, 7, 11))
        self.assertEqual(studio.test(0, 0), (None, 46, 5))
        self.assertEqual(
            [entry[0] for entry in studio.table()],
            [
                ("times", (), (cell(2), cell(5))), ("times", (), (cell(2), cell(7))),
                ("times", (), (cell(2), cell(11))),
                ("add", (), (cell(10), cell(14))), ("add", (), (cell(24), cell(22))),
            ],
        )

    def test_tests_stand_in_the_order_of_the_text(self):
        studio = self.with_tests((5, 7))
        studio.edit(0, "put_test", ("t0", (cell(9),)))
        studio.test(0, 0)
        self.assertEqual([entry[0][2][1] for entry in studio.table()[:2]], [cell(9), cell(7)])

    def test_no_tests(self):
        studio = self.example()
        self.refuses("no tests", studio, "test", 0, 1)
        self.refuses("no tests", studio, "best", 0, 1)
        studio.edit(0, "put_test", ("t", (cell(5),)))
        self.assertEqual(studio.test(0, 1)[1], 0)
        studio.edit(0, "drop_test", ("t",))
        self.refuses("no tests", studio, "test", 0, 1)

    def test_only_what_the_losses_need_is_asked(self):
        studio = self.with_tests((5,))
        studio.test(0, 0)
        self.assertEqual(len(studio.table()), 1)
        start = (((1, 2), (3, 4), (5, 6)), cell(-2))
        studio = Studio(PICKS, start)
        studio.edit(0, "put_test", ("t", (((2,), (0,)), ((MOST, MOST), (0, 0)))))
        # The rows (5, 6) and (1, 2) times -2; the sum of the last input would fault.
        self.assertEqual(studio.test(0, 0), (None, -28, 3))
        self.assertEqual([entry[0][0] for entry in studio.table()], ["pick", "total", "times"])

    def test_a_program_whose_loss_is_a_param(self):
        studio = Studio(BARE, (cell(10),))
        studio.edit(0, "put_test", ("t", ()))
        self.assertEqual(studio.test(0, 0), (None, 10, 0))
        studio.edit(0, "put_test", ("u", ()))
        self.assertEqual(studio.test(0, 0), (None, 20, 1))
        self.assertEqual(studio.table(), ((("add", (), (cell(10), cell(10))), cell(20)),))

    def test_a_run_that_faults(self):
        studio = self.faulting()
        studio.edit(0, "put_test", ("t", (cell(5),)))
        count = len(different(asked(studio.text(0), 2)))
        first = studio.test(0, 1)
        self.assertEqual(first[:2], (None, 50000))
        self.assertEqual(studio.test(0, 2), (2, None, count + 1 - first[2]))
        self.assertEqual(studio.test(0, 3), (2, None, 0))
        self.assertEqual(studio.bills()[1:], ((0, 2, count + 1 - first[2]), (0, 3, 0)))

    def test_tests_that_fault(self):
        studio = self.with_tests((5, MOST, 7))
        self.assertEqual(studio.test(0, 0), (None, None, 2))
        self.assertEqual(studio.table()[-1], (("times", (), (cell(2), cell(MOST))), None))
        # Behind step 1 the weight is 0.
        self.assertEqual(studio.test(0, 1)[:2], (None, 0))
        self.assertEqual(studio.test(0, 0), (None, None, 0))

    def test_additions_that_fault(self):
        studio = self.with_tests((4000000, 4000000, 1, 1))
        self.assertEqual(studio.test(0, 0), (None, None, 3))
        self.assertEqual(studio.table()[-1], (("add", (), (cell(8000000), cell(8000000))), None))
        studio = self.with_tests((4000000, 1, 4000000, 1))
        self.assertEqual(studio.test(0, 0)[1], None)
        self.assertEqual(studio.table()[-1], (("add", (), (cell(8000002), cell(8000002))), None))

    def test_what_the_run_has_asked_is_not_computed_again(self):
        studio = self.with_tests((3,))
        # The test is the document of the step.
        with Counted() as counted:
            self.assertEqual(studio.test(0, 1), (None, 0, 7))
        self.assertEqual(len(counted.operations), 7)
        with Counted() as counted:
            self.assertEqual(studio.test(0, 0), (None, 6, 0))
            self.assertEqual(studio.ask(0, 1)[1], 0)
        self.assertEqual(counted.operations, [])


class Best(Losses):
    def test_step_0_alone(self):
        studio = self.with_tests((5,))
        self.assertEqual(studio.best(0, 0), (0, 10, 1))
        self.assertEqual(studio.bills(), ((0, 0, 1),))

    def test_the_least_loss_at_the_end(self):
        studio = self.with_tests((5,))
        self.assertEqual(studio.best(0, 2), (2, -10, 11))
        self.assertEqual(studio.bills(), ((0, 2, 11),))
        # The tests of each step stand right behind the run up to it.
        text = studio.text(0)
        tests = [("times", (), (cell(weight), cell(5))) for weight in (2, 0, -2)]
        second = [operation for operation in asked(text, 2)[6:] if operation not in asked(text, 1)]
        self.assertEqual(
            [entry[0] for entry in studio.table()],
            [tests[0], *asked(text, 1), tests[1], *second, tests[2]],
        )
        self.assertEqual(studio.best(0, 1), (1, 0, 0))

    def test_the_least_loss_at_step_0(self):
        studio = self.with_tests((-5,))
        self.assertEqual(studio.best(0, 2)[:2], (0, -10))

    def test_the_least_loss_in_the_middle(self):
        # The weight goes from 2 to 0, -2 and back up to -1; the test's loss is five times as much.
        studio = self.with_tests((5,), ((3, 1, (1,), PLAIN),), entries=(3,))
        studio.edit(0, "put_source", ("b", 1))
        studio.edit(0, "put_document", ("b", "e", (cell(-3),)))
        studio.edit(0, "set_segment", (0, (2, 1, (1, 0), PLAIN)))
        studio.edit(0, "put_segment", (1, (2, 1, (0, 1), PLAIN)))
        losses = [studio.test(0, step)[1] for step in range(5)]
        self.assertEqual(losses, [10, 0, -10, -5, 0])
        self.assertEqual(studio.best(0, 4), (2, -10, 0))
        self.assertEqual(studio.best(0, 3), (2, -10, 0))
        self.assertEqual(studio.best(0, 1), (1, 0, 0))

    def test_the_least_loss_twice(self):
        # Behind the rate 0 the weight stays as it is.
        studio = self.with_tests((5,), ((1, 1, (1,), PLAIN), (3, 1, (1,), (0, 1, 0, 0, 0))))
        self.assertEqual(studio.best(0, 4)[:2], (1, 0))
        studio = self.with_tests((0,))
        self.assertEqual(studio.best(0, 2)[:2], (0, 0))

    def test_states_without_a_loss_are_left_out(self):
        studio = self.with_tests((5, MOST))
        # The test faults at the weights 2 and -2.
        self.assertEqual(studio.best(0, 0), (None, None, 2))
        self.assertEqual(studio.best(0, 2)[:2], (1, 0))

    def test_no_loss_at_all(self):
        studio = self.with_tests((MOST,), ((2, 1, (1,), (0, 1, 0, 0, 0)),))
        found = studio.best(0, 2)
        self.assertEqual(found[:2], (None, None))
        self.assertEqual(studio.bills(), ((0, 2, found[2]),))
        self.assertEqual(len(studio.table()), found[2])

    def test_a_run_that_faults(self):
        studio = self.faulting()
        studio.edit(0, "put_test", ("t", (cell(5),)))
        found = studio.best(0, 3)
        self.assertEqual(found[:2], (0, 50000))
        self.assertEqual(found[2], len(different(asked(studio.text(0), 3))) + 1)
        # Behind the fault there are no tests.
        self.assertIsNone(studio.table()[-1][1])
        self.assertEqual(studio.best(0, 2), (0, 50000, 0))

    def test_a_run_that_faults_at_its_first_step(self):
        studio = self.with_tests((1,), start=MOST)
        found = studio.best(0, 2)
        self.assertEqual(found, (0, MOST, 2))
        self.assertEqual([entry[1] for entry in studio.table()], [cell(MOST), None])


class Reasons(Losses):
    def test_in_their_order(self):
        for name in ("test", "best"):
            studio = self.with_tests(())
            for branch in (1, -1):
                self.refuses("no branch", studio, name, branch, 3)
            self.refuses("no step", studio, name, 0, 3)
            self.refuses("no step", studio, name, 0, -1)
            self.refuses("no tests", studio, name, 0, 2)
            studio.open_question(0, 0)
            for branch, step in ((1, 3), (0, 3), (0, 2)):
                self.refuses("question open", studio, name, branch, step)

    def test_20000_entries(self):
        for name in ("test", "best"):
            studio = full_studio(-1)
            # A test that only the state behind step 1 asks for would be one too many.
            count = studio.wanted(0, 1)
            self.assertEqual(len(studio.table()) + count, 19999)
            studio.edit(0, "put_test", ("t", (cell(17),)))
            self.refuses("table full", studio, name, 0, 1)
            self.assertEqual(studio.ask(0, 1)[1], count)
            self.refuses("table full", studio, name, 0, 1)
            studio.keep_newest(19980)
            if name == "test":
                self.assertEqual(studio.test(0, 1)[2], 20)
            else:
                # Twice 20 additions, at step 0 and step 1.
                self.refuses("table full", studio, "best", 0, 1)
                studio.keep_newest(19960)
                self.assertEqual(studio.best(0, 1)[2], 40)
            self.assertEqual(len(studio.table()), 20000)

    def test_too_many_questions_come_before_a_full_table(self):
        studio = full_studio(0)
        studio.edit(0, "put_test", ("t", (cell(17),)))
        while len(studio.bills()) < 1000:
            studio.ask(0, 0)
        for name in ("test", "best"):
            self.refuses("too many questions", studio, name, 0, 1)


class Rows(Losses):
    def test_random_texts_by_the_words_of_the_section(self):
        chance = random.Random(35)
        found = {}
        for _ in range(120):
            studio = random_studio(chance, chance.choice((3, 3, 40, 500)))
            table = {}
            for _ in range(4):
                refusal(studio.edit, 0, *random_edit(studio.text(0), chance))
                text = studio.text(0)
                if not text[4]:
                    continue
                step = chance.randint(0, steps_in(text))
                reference = Reference(text)
                if chance.random() < 0.5:
                    result = reference.result(step)
                    loss, operations = reference.tests(step)
                    operations = [*reference.asked(step), *operations]
                    expected = (result[1] if result[0] == "fault" else None, loss)
                    name = "test"
                else:
                    operations, losses = [], []
                    for number in range(step + 1):
                        loss, those = reference.tests(number)
                        operations += [*reference.asked(number), *those]
                        losses.append((loss, number))
                    losses = [pair for pair in losses if pair[0] is not None]
                    expected = min(losses)[::-1] if losses else (None, None)
                    name = "best"
                new = [operation for operation in different(operations) if operation not in table]
                table.update((operation, operate(*operation)) for operation in new)
                self.assertEqual(getattr(studio, name)(0, step), (*expected, len(new)))
                self.assertEqual(studio.table(), tuple(table.items()))
                self.assertEqual(studio.bills()[-1], (0, step, len(new)))
                found[name, expected[0] is None, expected[1] is None] = True
        self.assertEqual(len(found), 5, found)


if __name__ == "__main__":
    unittest.main()
