"""Section 38: transcripts of steps, and disputes about them."""

import copy
import random
import unittest

from lasttext.matrices import operate
from lasttext.studio import Studio
from tests.reference import Reference
from tests.samples import FULL, LAYERS, PLAIN, cell, random_studio, steps_in
from tests.test_branches import told
from tests.test_questions import Counted, Questions

TRUE = (cell(6), cell(1), cell(3), cell(3), cell(2), cell(0))


def other(matrix):
    """A matrix of the same shape that differs."""
    return ((matrix[0][0] + 1, *matrix[0][1:]), *matrix[1:])


def changed(claim, *indexes):
    return tuple(other(matrix) if at in indexes else matrix for at, matrix in enumerate(claim))


def search(length, index):
    """The number of comparisons, for claims of a length that first differ at an index."""
    low, high, count = 0, length, 0
    while low + 1 < high:
        middle = (low + high) // 2
        count += 1
        if index >= middle:
            low = middle
        else:
            high = middle
    return count


class Transcripts(Questions):
    def test_the_example(self):
        studio = self.example()
        self.assertEqual(studio.transcript(0, 1), TRUE)
        self.assertEqual(studio.transcript(0, 2), (cell(0), cell(1), cell(3), cell(3), cell(2), cell(-2)))

    def test_an_operation_that_is_asked_twice_stands_there_twice(self):
        studio = self.example(((1, 2, (1,), PLAIN),))
        found = studio.transcript(0, 1)
        self.assertEqual(found, (cell(6), cell(1), cell(3), cell(6), cell(1), cell(3), cell(12), cell(6),
                                 cell(6), cell(3), cell(-1)))

    def test_lines_that_are_not_needed_have_no_results(self):
        self.assertEqual(len(self.example(((1, 1, (1,), FULL),)).transcript(0, 1)), 3 + 4 + 3 + 3 + 3)

    def test_a_run_that_faults(self):
        studio = self.faulting()
        self.assertEqual(studio.transcript(0, 1), (cell(0), cell(1), cell(0), cell(0), cell(0), cell(10000)))
        self.assertIsNone(studio.transcript(0, 2))
        self.assertIsNone(studio.transcript(0, 3))

    def test_neither_uses_nor_changes_the_table(self):
        studio = self.example()
        studio.transcript(0, 2)
        self.assertEqual((studio.table(), studio.bills()), ((), ()))
        studio.ask(0, 1)
        before = told(studio)
        with Counted() as counted:
            studio.transcript(0, 1)
        self.assertEqual(len(set(counted.operations)), 6)
        with Counted() as counted:
            self.assertEqual(studio.dispute(0, 1, TRUE, changed(TRUE, 2)), ("first", 2, 3))
        self.assertGreater(len(counted.operations), 0)
        self.assertEqual(told(studio), before)

    def test_an_open_question_does_not_matter(self):
        studio = self.example()
        studio.open_question(0, 2)
        self.assertEqual(studio.transcript(0, 1), TRUE)
        self.assertEqual(studio.dispute(0, 1, TRUE, TRUE), ("alike", None, 0))
        self.assertEqual(studio.give(0), ("times", (), (cell(2), cell(3))))

    def test_reasons(self):
        studio = self.example()
        for branch in (1, -1):
            self.refuses("no branch", studio, "transcript", branch, 0)
            self.refuses("no branch", studio, "dispute", branch, 0, (), ())
        for step in (0, 3, -1):
            self.refuses("no step", studio, "transcript", 0, step)
            self.refuses("no step", studio, "dispute", 0, step, TRUE, TRUE)
            self.refuses("no step", studio, "dispute", 0, step, (), ())

    def test_random_texts(self):
        chance = random.Random(38)
        faults = 0
        for _ in range(60):
            studio = random_studio(chance, chance.choice((3, 3, 400)))
            reference = Reference(studio.text(0))
            for step in range(1, steps_in(studio.text(0)) + 1):
                fault = reference.result(step)[0] == "fault"
                faults += fault
                expected = None if fault else tuple(reference.results[step - 1])
                self.assertEqual(studio.transcript(0, step), expected)
        self.assertGreater(faults, 10)


class Disputes(Questions):
    def test_equal_claims(self):
        studio = self.example()
        self.assertEqual(studio.dispute(0, 1, TRUE, TRUE), ("alike", None, 0))
        wrong = changed(TRUE, 0, 3)
        self.assertEqual(studio.dispute(0, 1, wrong, copy.deepcopy(wrong)), ("alike", None, 0))

    def test_each_index(self):
        studio = self.example()
        # 6 matrices: 3; then 1 or 4 (of 3 to 6); then 2 or 5.
        for index, comparisons in enumerate((2, 3, 3, 2, 3, 3)):
            wrong = changed(TRUE, index)
            self.assertEqual(search(6, index), comparisons)
            self.assertEqual(studio.dispute(0, 1, TRUE, wrong), ("first", index, comparisons))
            self.assertEqual(studio.dispute(0, 1, wrong, TRUE), ("second", index, comparisons))

    def test_several_indexes(self):
        studio = self.example()
        wrong = changed(TRUE, 1, 2, 5)
        self.assertEqual(studio.dispute(0, 1, TRUE, wrong), ("first", 1, 3))
        self.assertEqual(studio.dispute(0, 1, wrong, TRUE), ("second", 1, 3))

    def test_two_wrong_claims(self):
        studio = self.example()
        # Both have the same wrong loss; it counts for what is done on it alone, here for nothing.
        first = changed(TRUE, 0)
        self.assertEqual(studio.dispute(0, 1, first, changed(first, 4)), ("first", 4, 3))
        # Behind a wrong gradient of 4, `stretch` gives 4 and not 3.
        first = changed(TRUE, 2)
        second = (*first[:3], cell(4), *first[4:])
        self.assertEqual(studio.dispute(0, 1, first, second), ("second", 3, 2))
        self.assertEqual(studio.dispute(0, 1, second, first), ("first", 3, 2))
        # Neither has the result where they differ.
        self.assertEqual(studio.dispute(0, 1, changed(TRUE, 3), changed(changed(TRUE, 3), 3)), ("neither", 3, 2))
        # What is wrong behind the first difference does not matter.
        self.assertEqual(studio.dispute(0, 1, changed(TRUE, 5), changed(TRUE, 1)), ("first", 1, 3))

    def test_claims_whose_matrices_have_other_shapes(self):
        studio = self.example()
        wide = ((1, 2),)
        self.assertEqual(studio.dispute(0, 1, TRUE, (*TRUE[:2], wide, *TRUE[3:])), ("first", 2, 3))
        # The `times` of 3 times the wide matrix faults, so that neither claim has its result.
        first = (TRUE[0], wide, *TRUE[2:])
        second = (*first[:2], wide, *first[3:])
        self.assertEqual(studio.dispute(0, 1, first, second), ("neither", 2, 3))

    def test_the_state_before_and_the_inputs_are_those_of_the_step(self):
        studio = self.example(((3, 1, (1,), PLAIN),), (3, 4))
        for step in (1, 2, 3):
            true = studio.transcript(0, step)
            for index in range(len(true)):
                found = studio.dispute(0, step, changed(true, index), true)
                self.assertEqual(found, ("second", index, search(len(true), index)))

    def test_a_run_that_faults_at_the_step(self):
        studio = self.faulting()
        # Step 2: loss, fill, gradient; rate 0 leaves the weight; `stretch` 1000 of 10000 faults.
        done = (cell(0), cell(1), cell(0), cell(0), cell(0), cell(10000))
        claim = (*done, cell(0), cell(0), cell(10000))
        self.assertEqual(studio.dispute(0, 2, claim, claim), ("alike", None, 0))
        self.assertEqual(studio.dispute(0, 2, claim, changed(claim, 6)), ("neither", 6, search(9, 6)))
        self.assertEqual(studio.dispute(0, 2, claim, changed(claim, 5)), ("first", 5, search(9, 5)))
        # Behind the fault a claim may still have what its own matrices give.
        self.assertEqual(studio.dispute(0, 2, claim, changed(claim, 7)), ("first", 7, search(9, 7)))
        self.assertEqual(studio.dispute(0, 2, claim, changed(claim, 8)), ("first", 8, search(9, 8)))

    def test_a_run_that_faults_before(self):
        studio = self.faulting()
        claim = (cell(0),) * 9
        self.refuses("not reached", studio, "dispute", 0, 3, claim, changed(claim, 0))
        self.refuses("not reached", studio, "dispute", 0, 3, claim, claim)
        self.refuses("not reached", studio, "dispute", 0, 3, (), ())
        self.refuses("no step", studio, "dispute", 0, 4, claim, claim)

    def test_claims_of_another_length(self):
        studio = self.example()
        for wrong in ((), TRUE[:5], (*TRUE, cell(0))):
            self.refuses("claim", studio, "dispute", 0, 1, TRUE, wrong)
            self.refuses("claim", studio, "dispute", 0, 1, wrong, TRUE)
            # Reasons come first, also for equal claims.
            self.refuses("claim", studio, "dispute", 0, 1, wrong, wrong)

    def test_all_needed_lines_of_a_large_step(self):
        start = (((1, -2), (3, 4)), ((1,), (0,)), ((2, 1),))
        studio = Studio(LAYERS, start)
        studio.edit(0, "put_source", ("a", 5))
        for k in range(3):
            studio.edit(0, "put_document", ("a", f"d{k}", (((k,), (1 - k,)), cell(k))))
        studio.edit(0, "put_segment", (0, (2, 3, (1,), FULL)))
        for step in (1, 2):
            true = studio.transcript(0, step)
            self.assertGreater(len(true), 60)
            for index in range(len(true)):
                expected = search(len(true), index)
                self.assertIn(expected, (5, 6, 7))
                wrong = changed(true, *range(index, len(true)))
                self.assertEqual(studio.dispute(0, step, true, wrong), ("first", index, expected))

    def test_a_claim_that_equals_the_transcript_never_loses(self):
        """Section 44."""
        chance = random.Random(44)
        for _ in range(40):
            studio = random_studio(chance)
            for step in range(1, steps_in(studio.text(0)) + 1):
                true = studio.transcript(0, step)
                if true is None:
                    continue
                for _ in range(8):
                    indexes = chance.sample(range(len(true)), chance.randint(1, len(true)))
                    wrong = changed(true, *indexes)
                    count = search(len(true), min(indexes))
                    self.assertEqual(studio.dispute(0, step, true, wrong), ("first", min(indexes), count))
                    self.assertEqual(studio.dispute(0, step, wrong, true), ("second", min(indexes), count))

    def test_random_claims_by_the_words_of_the_section(self):
        chance = random.Random(3838)
        found = {}
        for _ in range(40):
            studio = random_studio(chance, chance.choice((3, 400)))
            text = studio.text(0)
            reference = Reference(text)
            for step in range(1, min(steps_in(text), reference.fault or 99) + 1):
                operations = reference.operations[step - 1]
                results = reference.results[step - 1]
                if results[-1] is None:
                    continue
                first = changed(results, *chance.sample(range(len(results)), chance.randint(0, 2)))
                second = changed(results, *chance.sample(range(len(results)), chance.randint(0, 2)))
                if first == second:
                    expected = ("alike", None, 0)
                else:
                    low = next(at for at in range(len(first)) if first[at] != second[at])
                    # Where the claims before are true, the operation is that of the run.
                    if tuple(results[:low]) != first[:low]:
                        continue
                    right = "neither"
                    for name, claim in (("second", second), ("first", first)):
                        right = name if claim[low] == operate(*operations[low]) else right
                    expected = (right, low, search(len(first), low))
                self.assertEqual(studio.dispute(0, step, first, second), expected)
                found[expected[0]] = True
        self.assertTrue({"first", "second", "alike"} <= set(found), found)


if __name__ == "__main__":
    unittest.main()
