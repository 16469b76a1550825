"""Sections 24 to 26: the documents of steps, steps as line programs, and the run from nothing."""

import copy
import random
import unittest

from lasttext import runs
from lasttext.matrices import operate
from lasttext.orders import order, shares
from lasttext.runs import asked, documents_of, run, step_lines
from tests.reference import Reference, documents_by_definition, step_by_definition
from tests.samples import (
    ALONE, BARE, EXAMPLE, FULL, GIVEN, LAYERS, PICKS, PLAIN, cell, example, random_program, random_settings,
    random_studio, steps_in,
)

MOST = 9999999


def sourced(sources, segments):
    """A text with sources of documents without inputs, whose names count alone."""
    given = tuple((name, seed, tuple((each, ()) for each in names)) for name, seed, names in sources)
    return (BARE, (cell(1),), given, segments, ())


class Documents(unittest.TestCase):
    def test_no_segments(self):
        self.assertEqual(documents_of(sourced((), ())), ())
        self.assertEqual(documents_of(sourced((("a", 7, ("x", "y")),), ())), ())

    def test_one_document(self):
        text = sourced((("a", 7, ("x",)),), ((2, 1, (1,), PLAIN), (1, 3, (100,), PLAIN)))
        self.assertEqual(documents_of(text), (((0, "x"),), ((0, "x"),), ((0, "x"),) * 3))

    def test_one_source_goes_on_round_after_round(self):
        text = sourced((("a", 7, ("a", "b", "c")),), ((3, 2, (4,), PLAIN), (2, 1, (1,), PLAIN)))
        given = [(0, name) for number in range(3) for name in order(7, number, ("a", "b", "c"))]
        self.assertEqual(order(7, 0, ("a", "b", "c")), ("c", "b", "a"))
        expected = (tuple(given[0:2]), tuple(given[2:4]), tuple(given[4:6]), (given[6],), (given[7],))
        self.assertEqual(documents_of(text), expected)

    def test_sources_take_turns_anew_in_each_segment_but_go_on_with_their_documents(self):
        sources = (("a", 7, ("p", "q", "r")), ("b", 8, ("p", "s")))
        text = sourced(sources, ((1, 3, (1, 1), PLAIN), (1, 3, (1, 1), PLAIN), (1, 1, (0, 1), PLAIN)))
        self.assertEqual(shares((1, 1), 6), (0, 1, 0, 1, 0, 1))
        first = [(0, name) for number in range(2) for name in order(7, number, ("p", "q", "r"))]
        second = [(1, name) for number in range(2) for name in order(8, number, ("p", "s"))]
        self.assertEqual(
            documents_of(text),
            ((first[0], second[0], first[1]), (first[2], second[1], first[3]), (second[2],)),
        )

    def test_a_source_of_weight_0_gives_nothing(self):
        sources = (("a", 7, ("p", "q")), ("b", 8, ("s",)), ("c", 9, ()))
        text = sourced(sources, ((4, 2, (0, 5, 0), PLAIN), (1, 2, (3, 0, 0), PLAIN)))
        found = documents_of(text)
        self.assertEqual(found[:4], (((1, "s"), (1, "s")),) * 4)
        self.assertEqual(found[4], tuple((0, name) for name in order(7, 0, ("p", "q"))))

    def test_the_round_is_that_of_the_whole_run(self):
        names = ("d1", "d2", "d3", "d4", "d5")
        text = sourced((("a", 99, names),), tuple((1, batch, (1,), PLAIN) for batch in (4, 4, 4, 8)))
        given = [(0, name) for number in range(4) for name in order(99, number, names)]
        found = documents_of(text)
        self.assertEqual(found, (tuple(given[:4]), tuple(given[4:8]), tuple(given[8:12]), tuple(given[12:20])))

    def test_as_many_steps_and_documents_as_there_can_be(self):
        names = tuple(f"d{k}" for k in range(12))
        sources = tuple((name, seed, names) for name, seed in (("a", 0), ("b", 1000000), ("c", 5), ("e", 5)))
        segments = tuple((6, 8, (100, 1, 0, 7), PLAIN) for _ in range(8))
        text = sourced(sources, segments)
        found = documents_of(text)
        self.assertEqual([len(found), {len(each) for each in found}], [48, {8}])
        self.assertEqual(found, documents_by_definition(text))

    def test_random_texts_by_the_definition(self):
        chance = random.Random(24)
        for _ in range(150):
            names = [f"d{k}" for k in range(12)]
            sources = tuple(
                (name, chance.randint(0, 1000000), tuple(chance.sample(names, chance.randint(1, 12))))
                for name in ("a", "b", "c", "e")[: chance.randint(1, 4)]
            )
            segments = []
            for _ in range(chance.randint(0, 5)):
                weights = [chance.choice((0, 1, 2, 50, 100)) for _ in sources]
                weights[chance.randrange(len(weights))] += 1
                segments.append((chance.randint(1, 6), chance.randint(1, 8), tuple(weights), PLAIN))
            text = sourced(sources, tuple(segments))
            self.assertEqual(documents_of(text), documents_by_definition(text))

    def test_tuples_all_through_and_the_argument_unchanged(self):
        text = sourced((("a", 7, ("x", "y")),), ((2, 2, (1,), PLAIN),))
        before = copy.deepcopy(text)
        found = documents_of(text)
        self.assertEqual(text, before)
        self.assertIs(type(found), tuple)
        for documents in found:
            self.assertIs(type(documents), tuple)
            for document in documents:
                self.assertEqual([type(document), *map(type, document)], [tuple, int, str])


class StepLines(unittest.TestCase):
    """The order of the lines and of the outputs of a step."""

    def test_one_document_with_plain_settings(self):
        # The leaves are the weight, the momentum, the residue and x.
        self.assertEqual(
            step_lines(EXAMPLE, PLAIN, 1),
            (
                (
                    ("times", (), (0, 3)), ("fill", (1, 1, 1), ()), ("times", (), (5, 3)), ("times", (), (5, 0)),
                    ("stretch", (1,), (6,)), ("scale", (1,), (8,)), ("sub", (), (0, 9)),
                ),
                (10, 6, 2, 4),
            ),
        )

    def test_two_documents_with_all_settings(self):
        self.assertEqual(
            step_lines(EXAMPLE, FULL, 2),
            (
                (
                    ("times", (), (0, 3)), ("fill", (1, 1, 1), ()), ("times", (), (6, 3)), ("times", (), (6, 0)),
                    ("times", (), (0, 4)), ("fill", (1, 1, 1), ()), ("times", (), (10, 4)), ("times", (), (10, 0)),
                    ("add", (), (5, 9)),
                    ("add", (), (7, 11)),
                    ("add", (), (14, 2)), ("scale", (1,), (15,)), ("stretch", (2,), (16,)), ("sub", (), (15, 17)),
                    ("stretch", (512,), (1,)), ("scale", (10,), (19,)), ("add", (), (20, 17)),
                    ("stretch", (3,), (21,)), ("scale", (2,), (22,)), ("sub", (), (0, 23)),
                    ("stretch", (1,), (0,)), ("scale", (10,), (25,)), ("sub", (), (24, 26)),
                ),
                (27, 21, 18, 13),
            ),
        )

    def test_two_params_stand_together_in_leaves_sums_settings_and_outputs(self):
        program = ((("a", 1, 1), ("b", 1, 1)), (("x", 1, 1), ("y", 2, 2)), (("s", "add", (0, 1), ()),), 4)
        # Leaves: a b, their momenta 2 3, their residues 4 5, x y 6 7, x y 8 9.
        self.assertEqual(
            step_lines(program, (7, 5, 0, 0, 0), 2),
            (
                (
                    ("add", (), (0, 1)), ("fill", (1, 1, 1), ()),
                    ("add", (), (0, 1)), ("fill", (1, 1, 1), ()),
                    ("add", (), (10, 12)),
                    ("add", (), (11, 13)), ("add", (), (11, 13)),
                    ("stretch", (7,), (15,)), ("scale", (5,), (17,)), ("sub", (), (0, 18)),
                    ("stretch", (7,), (16,)), ("scale", (5,), (20,)), ("sub", (), (1, 21)),
                ),
                (19, 22, 15, 16, 4, 5, 14),
            ),
        )

    def test_the_losses_are_summed_before_the_gradients_as_trees(self):
        lines, outputs = step_lines(BARE, PLAIN, 3)
        self.assertEqual(
            lines,
            (
                ("fill", (1, 1, 1), ()), ("fill", (1, 1, 1), ()), ("fill", (1, 1, 1), ()),
                ("add", (), (0, 0)), ("add", (), (6, 0)),
                ("add", (), (3, 4)), ("add", (), (8, 5)),
                ("stretch", (1,), (9,)), ("scale", (1,), (10,)), ("sub", (), (0, 11)),
            ),
        )
        self.assertEqual(outputs, (12, 9, 2, 7))

    def test_all_batches_and_random_programs_by_the_definition(self):
        chance = random.Random(25)
        for _ in range(200):
            program = random_program(chance)
            settings, count = random_settings(chance), chance.randint(1, 8)
            lines, outputs = step_lines(program, settings, count)
            _, expected, expected_outputs = step_by_definition(program, settings, count)
            self.assertEqual((lines, outputs), (tuple(expected), expected_outputs))


class Run(unittest.TestCase):
    def test_step_0_is_the_start_with_zeros(self):
        start = (((1, 2), (3, 4)), ((5,), (6,)), ((7, 8),))
        zeros = (((0, 0), (0, 0)), ((0,), (0,)), ((0, 0),))
        text = (LAYERS, start, (), (), ())
        self.assertEqual(run(text, 0), ("state", start, zeros, zeros, ()))
        self.assertEqual(asked(text, 0), ())

    def test_the_first_a_middle_and_the_last_step(self):
        text = example((3,), ((2, 1, (1,), PLAIN), (1, 2, (1,), (0, 1, 0, 0, 0))))
        zero = (cell(0),)
        self.assertEqual(run(text, 0), ("state", (cell(2),), zero, zero, ()))
        self.assertEqual(run(text, 1), ("state", (cell(0),), (cell(3),), zero, (6,)))
        self.assertEqual(run(text, 2), ("state", (cell(-2),), (cell(3),), zero, (6, 0)))
        # In the last step the batch is 2 and the rate 0.
        self.assertEqual(run(text, 3), ("state", (cell(-2),), (cell(6),), zero, (6, 0, -12)))

    def test_momentum_residue_and_decay_go_on(self):
        # Momentum 512 halves; decay 256 takes a quarter; coarse 2 sends multiples of 4.
        text = example((5,), ((2, 1, (1,), (2, 1, 512, 256, 2)),), start=100)
        # Step 1: whole 5, sent 4, residue 1; momentum 4; 100 - 4 - 25.
        self.assertEqual(run(text, 1), ("state", (cell(71),), (cell(4),), (cell(1),), (500,)))
        # Step 2: whole 6, sent 8, residue -2; momentum 2 + 8; 71 - 10 - 18.
        self.assertEqual(run(text, 2), ("state", (cell(43),), (cell(10),), (cell(-2),), (500, 355)))

    def test_the_loss_of_a_step_is_the_sum_of_its_documents(self):
        text = example((3, 4, 5), ((1, 3, (1,), (0, 1, 0, 0, 0)),))
        self.assertEqual(run(text, 1)[4], (24,))
        self.assertEqual(run(text, 1)[2], (cell(12),))

    def test_a_program_whose_loss_needs_no_input(self):
        text = example((9, MOST), ((3, 2, (1,), PLAIN),), program=ALONE)
        # The gradient of each document is 3; 6 * 1 / 2 is taken from the weight.
        self.assertEqual(run(text, 3)[1:], ((cell(-7),), (cell(6),), (cell(0),), (12, -6, -24)))
        kinds = [operation[0] for operation in asked(text, 1)]
        self.assertEqual(
            kinds, ["stretch", "fill", "stretch", "stretch", "fill", "stretch", "add", "add", "stretch", "scale", "sub"]
        )

    def test_a_program_whose_loss_is_a_param(self):
        text = (BARE, (cell(10),), (("a", 0, (("d", ()),)),), ((2, 4, (1,), (8, 3, 0, 0, 0)),), ())
        self.assertEqual(run(text, 2), ("state", (cell(2),), (cell(4),), (cell(0),), (40, 24)))

    def test_a_program_whose_loss_is_an_input(self):
        text = example((7, 8), ((1, 2, (1,), PLAIN),), program=GIVEN)
        self.assertEqual(run(text, 1), ("state", (cell(2),), (cell(0),), (cell(0),), (15,)))
        self.assertEqual(
            asked(text, 1),
            (
                ("fill", (1, 1, 0), ()), ("fill", (1, 1, 0), ()),
                ("add", (), (cell(7), cell(8))) if documents_of(text)[0][0][1] == "d0"
                else ("add", (), (cell(8), cell(7))),
                ("add", (), (cell(0), cell(0))),
                ("stretch", (1,), (cell(0),)), ("scale", (1,), (cell(0),)), ("sub", (), (cell(2), cell(0))),
            ),
        )

    def test_random_texts_by_the_definition(self):
        chance = random.Random(26)
        faults = 0
        for turn in range(150):
            text = random_studio(chance, chance.choice((3, 30, 900))).text(0)
            reference = Reference(text)
            faults += reference.fault is not None
            for step in range(steps_in(text) + 1):
                self.assertEqual(run(text, step), reference.result(step))
                self.assertEqual(asked(text, step), reference.asked(step))
        self.assertTrue(20 < faults < 130, faults)

    def test_all_batches(self):
        for batch in range(1, 9):
            text = example((1, -2, 3, 4, -5), ((5, batch, (1,), FULL),))
            reference = Reference(text)
            self.assertEqual(run(text, 5), reference.result(5))
            self.assertEqual(asked(text, 5), reference.asked(5))

    def test_the_longest_run(self):
        text = example(tuple(range(12)), tuple((6, 8, (1,), FULL) for _ in range(8)))
        self.assertEqual(run(text, 48), Reference(text).result(48))
        self.assertEqual(len(run(text, 48)[4]), 48)

    def test_kinds_of_values_and_the_argument_unchanged(self):
        text = example((3, 4), ((2, 1, (1,), FULL),))
        before = copy.deepcopy(text)
        found, operations = run(text, 2), asked(text, 2)
        self.assertEqual(text, before)
        self.assertEqual([type(part) for part in found], [str, tuple, tuple, tuple, tuple])
        self.assertEqual([type(loss) for loss in found[4]], [int, int])
        self.assertIs(type(operations), tuple)
        for operation in operations:
            self.assertEqual([type(part) for part in operation], [str, tuple, tuple])

    def test_beyond_the_limits_nothing_is_raised(self):
        text = example((3,), ((50, 9, (101,), (1001, 21, 1001, 1001, 10)),))
        self.assertEqual(run(text, 50), Reference(text).result(50))


class Faults(unittest.TestCase):
    def check(self, text, step, last):
        """The run faults at this step, by this operation."""
        count = steps_in(text)
        for number in range(count + 1):
            if number < step:
                self.assertEqual(run(text, number)[0], "state")
            else:
                self.assertEqual(run(text, number), ("fault", step))
                self.assertEqual(asked(text, number), asked(text, step))
        self.assertEqual(asked(text, step)[-1], last)
        self.assertIsNone(operate(*last))
        reference = Reference(text)
        self.assertEqual((run(text, count), asked(text, count)), (reference.result(count), reference.asked(count)))

    def test_in_the_lines_of_a_document(self):
        text = example((2,), ((3, 1, (1,), PLAIN),), start=MOST)
        self.check(text, 1, ("times", (), (cell(MOST), cell(2))))

    def test_in_the_lines_of_a_later_document(self):
        text = example((1, 2, 1), ((1, 3, (1,), PLAIN),), start=MOST)
        self.check(text, 1, ("times", (), (cell(MOST), cell(2))))

    def test_in_the_sum_of_the_losses(self):
        text = example((3000000,), ((2, 2, (1,), PLAIN),))
        self.check(text, 1, ("add", (), (cell(6000000), cell(6000000))))

    def test_in_the_sum_of_the_gradients(self):
        text = example((6000000,), ((2, 2, (1,), PLAIN),), start=0)
        self.check(text, 1, ("add", (), (cell(6000000), cell(6000000))))
        self.assertEqual(asked(text, 1)[-2], ("add", (), (cell(0), cell(0))))

    def test_in_the_operations_of_settings(self):
        text = example((10000,), ((3, 1, (1,), (1000, 20, 0, 0, 0)),))
        self.check(text, 1, ("stretch", (1000,), (cell(10000),)))
        # The far weight of decay is stretched last.
        text = example((0,), ((3, 1, (1,), (0, 1, 0, 1000, 0)),), start=10000)
        self.check(text, 1, ("stretch", (1000,), (cell(10000),)))

    def test_at_a_middle_step_by_what_was_summed_up(self):
        # The residue grows until the momentum cannot be stretched any more.
        text = example((6000,), ((9, 1, (1,), (0, 1, 1000, 0, 0)),))
        reference = Reference(text)
        self.assertEqual(reference.fault, 3)
        self.check(text, 3, ("stretch", (1000,), (reference.states[2][2][0],)))

    def test_at_the_last_step_and_in_a_later_segment(self):
        text = example((2,), ((2, 1, (1,), (0, 1, 0, 0, 0)), (1, 1, (1,), (0, 1, 0, 1000, 0))), start=20000)
        self.check(text, 3, ("stretch", (1000,), (cell(20000),)))

    def test_by_a_row_that_does_not_exist(self):
        sources = (("a", 3, (("d", (((0,), (3,)), ((0, 0), (0, 0)))),)),)
        table = ((1, 2), (3, 4), (5, 6))
        text = (PICKS, (table, cell(1)), sources, ((2, 1, (1,), PLAIN),), ())
        self.check(text, 1, ("pick", (), (table, ((0,), (3,)))))

    def test_a_line_that_is_not_needed_does_not_fault(self):
        sources = (("a", 3, (("d", (((0,), (2,)), ((MOST, 0), (0, 0)))),)),)
        text = (PICKS, (((1, 2), (3, 4), (5, 6)), cell(1)), sources, ((1, 1, (1,), PLAIN),), ())
        self.assertEqual(run(text, 1)[4], (14,))

    def test_asked_is_a_beginning_of_asked_for_the_next_step(self):
        chance = random.Random(2626)
        for _ in range(60):
            text = random_studio(chance, chance.choice((3, 900))).text(0)
            found = [asked(text, step) for step in range(steps_in(text) + 1)]
            for before, behind in zip(found, found[1:]):
                self.assertEqual(behind[: len(before)], before)
            results = [operate(*operation) for operation in found[-1]]
            self.assertNotIn(None, results[:-1])
            self.assertEqual(None in results, run(text, steps_in(text))[0] == "fault")


class Files(unittest.TestCase):
    def test_defined_in_their_file(self):
        for name in ("documents_of", "run", "asked"):
            self.assertEqual(getattr(runs, name).__module__, "lasttext.runs")


if __name__ == "__main__":
    unittest.main()
