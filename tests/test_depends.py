"""Section 37: the steps that use a document, and the states that hang on it."""

import random
import unittest

from lasttext.programtexts import read_program
from lasttext.runs import documents_of, run
from lasttext.studio import Studio
from tests.reference import documents_by_definition, needed_by_definition, step_by_definition
from tests.samples import (
    ALONE, BARE, EXAMPLE, GIVEN, PICKS, PLAIN, cell, random_inputs, random_studio, steps_in,
)
from tests.test_branches import Cases

ZERO_RATE = (0, 1, 0, 0, 0)


def studio_of(program, start, sources, segments):
    """A studio with these documents; `sources` has for each source its name, its seed and its documents."""
    studio = Studio(program, start)
    for name, seed, documents in sources:
        studio.edit(0, "put_source", (name, seed))
        for document, matrices in documents:
            studio.edit(0, "put_document", (name, document, matrices))
    for place, segment in enumerate(segments):
        studio.edit(0, "put_segment", (place, segment))
    return studio


def one_cell(program, count=3, segments=((2, 2, (1,), PLAIN),)):
    documents = [(f"d{k}", (cell(k + 1),)) for k in range(count)]
    return studio_of(program, (cell(2),), (("a", 5, documents),), segments)


class Uses(Cases):
    def test_documents_of_several_sources(self):
        sources = (
            ("a", 7, [("d", (cell(1),)), ("e", (cell(2),)), ("f", (cell(3),))]),
            ("b", 8, [("d", (cell(4),)), ("g", (cell(5),))]),
            ("c", 9, []),
            ("h", 9, [("i", (cell(5),))]),
        )
        segments = ((3, 1, (1, 0, 0, 0), PLAIN), (4, 2, (1, 1, 0, 0), PLAIN), (2, 3, (0, 1, 0, 0), PLAIN))
        studio = studio_of(EXAMPLE, (cell(2),), sources, segments)
        given = documents_of(studio.text(0))
        for at, (source, _, documents) in enumerate(sources):
            for name, _ in documents:
                expected = tuple(k for k, each in enumerate(given, start=1) if (at, name) in each)
                self.assertEqual(studio.uses(0, source, name), expected)
        # The first source gives each of its documents once in the first three steps.
        first = [studio.uses(0, "a", name)[0] for name in "def"]
        self.assertEqual(sorted(first), [1, 2, 3])
        self.assertEqual(studio.uses(0, "h", "i"), ())
        self.assertEqual(studio.uses(0, "b", "d") + studio.uses(0, "b", "g"),
                         tuple(k for name in "dg" for k, each in enumerate(given, start=1) if (1, name) in each))

    def test_a_step_with_the_same_document_twice_counts_once(self):
        studio = one_cell(EXAMPLE, 1, ((3, 4, (1,), PLAIN),))
        self.assertEqual(studio.uses(0, "a", "d0"), (1, 2, 3))

    def test_runs_that_fault_do_not_matter(self):
        studio = one_cell(EXAMPLE, 2, ((3, 2, (1,), PLAIN),))
        studio.edit(0, "set_start", ("w", cell(9999999)))
        self.assertEqual(run(studio.text(0), 3), ("fault", 1))
        self.assertEqual(studio.uses(0, "a", "d1"), (1, 2, 3))
        self.assertEqual([studio.hangs(0, step, "a", "d1") for step in range(4)], [False, True, True, True])

    def test_no_steps(self):
        studio = one_cell(EXAMPLE, 2, ())
        self.assertEqual(studio.uses(0, "a", "d1"), ())
        self.assertIs(studio.hangs(0, 0, "a", "d1"), False)

    def test_reasons(self):
        studio = one_cell(EXAMPLE, 2)
        studio.edit(0, "put_source", ("b", 6))
        for branch in (1, -1):
            self.refuses("no branch", studio, "uses", branch, "z", "z")
        self.refuses("no source", studio, "uses", 0, "z", "d0")
        self.refuses("no document", studio, "uses", 0, "a", "d2")
        self.refuses("no document", studio, "uses", 0, "b", "d0")
        studio.edit(0, "put_test", ("t", (cell(1),)))
        self.refuses("no document", studio, "uses", 0, "a", "t")

    def test_of_the_branch(self):
        studio = one_cell(EXAMPLE, 2, ((2, 1, (1,), PLAIN),))
        studio.fork(0)
        studio.edit(1, "drop_document", ("a", "d0"))
        self.assertEqual(studio.uses(1, "a", "d1"), (1, 2))
        self.assertEqual(len(studio.uses(0, "a", "d1")), 1)
        self.refuses("no document", studio, "uses", 1, "a", "d0")


class Hangs(Cases):
    def test_from_the_first_step_that_uses_it(self):
        studio = one_cell(EXAMPLE, 3, ((3, 1, (1,), PLAIN), (2, 2, (1,), PLAIN)))
        for name in ("d0", "d1", "d2"):
            first = studio.uses(0, "a", name)[0]
            found = [studio.hangs(0, step, "a", name) for step in range(6)]
            self.assertEqual(found, [step >= first for step in range(6)])
            self.assertTrue(all(type(each) is bool for each in found))

    def test_a_program_that_needs_no_input(self):
        studio = one_cell(ALONE)
        self.assertEqual(studio.uses(0, "a", "d0") != (), True)
        for step in range(3):
            for name in ("d0", "d1", "d2"):
                self.assertIs(studio.hangs(0, step, "a", name), False)

    def test_a_program_without_inputs(self):
        studio = studio_of(BARE, (cell(1),), (("a", 1, [("d", ())]),), ((3, 2, (1,), PLAIN),))
        self.assertEqual(studio.uses(0, "a", "d"), (1, 2, 3))
        self.assertEqual([studio.hangs(0, step, "a", "d") for step in range(4)], [False] * 4)

    def test_an_input_that_is_an_output(self):
        # The loss of a step with one document is the input itself; no line is applied to it.
        studio = one_cell(GIVEN, 2, ((2, 1, (1,), PLAIN),))
        for name in ("d0", "d1"):
            first = studio.uses(0, "a", name)[0]
            self.assertEqual([studio.hangs(0, step, "a", name) for step in range(3)], [step >= first for step in range(3)])

    def test_a_step_with_the_same_document_twice(self):
        studio = one_cell(GIVEN, 1, ((1, 3, (1,), PLAIN),))
        self.assertEqual([studio.hangs(0, step, "a", "d0") for step in range(2)], [False, True])
        studio = one_cell(ALONE, 1, ((1, 3, (1,), PLAIN),))
        self.assertIs(studio.hangs(0, 1, "a", "d0"), False)

    def test_a_program_of_which_some_inputs_are_needed(self):
        matrices = (((0,), (2,)), ((1, 2), (3, 4)))
        table = ((1, 2), (3, 4), (5, 6))
        studio = studio_of(PICKS, (table, cell(1)), (("a", 3, [("d", matrices)]),), ((2, 1, (1,), PLAIN),))
        self.assertEqual([studio.hangs(0, step, "a", "d") for step in range(3)], [False, True, True])
        # The gradient alone needs the input.
        program = read_program("param w 1 1\ninput x 1 1\ny = times w x\nz = sub y y\nk = times w w\nloss k\n")
        studio = one_cell(program, 1, ((1, 1, (1,), PLAIN),))
        self.assertIs(studio.hangs(0, 1, "a", "d0"), False)

    def test_a_rate_of_0_does_not_matter(self):
        studio = one_cell(EXAMPLE, 1, ((2, 1, (1,), ZERO_RATE),))
        self.assertEqual([studio.hangs(0, step, "a", "d0") for step in range(3)], [False, True, True])

    def test_a_program_of_a_later_text(self):
        studio = one_cell(ALONE, 2, ((2, 2, (1,), PLAIN),))
        self.assertIs(studio.hangs(0, 2, "a", "d0"), False)
        studio.edit(0, "set_program", (EXAMPLE, (cell(1),)))
        self.assertIs(studio.hangs(0, 2, "a", "d0"), True)

    def test_reasons(self):
        studio = one_cell(EXAMPLE, 2)
        for branch in (1, -1):
            self.refuses("no branch", studio, "hangs", branch, 3, "z", "z")
        for step in (3, -1):
            self.refuses("no step", studio, "hangs", 0, step, "z", "z")
        self.refuses("no source", studio, "hangs", 0, 2, "z", "z")
        self.refuses("no source", studio, "hangs", 0, 0, "z", "d0")
        self.refuses("no document", studio, "hangs", 0, 2, "a", "z")

    def test_random_texts_by_the_words_of_the_section(self):
        chance = random.Random(37)
        found = {}
        for _ in range(100):
            text = (studio := random_studio(chance, chance.choice((3, 400)))).text(0)
            program = text[0]
            params, inputs = len(program[0]), len(program[1])
            rules = [segment[3] for segment in text[3] for _ in range(segment[0])]
            given = documents_by_definition(text)
            for at, (source, _, documents) in enumerate(text[2]):
                for name, _ in documents:
                    first = len(given) + 1
                    for number, (rule, each) in enumerate(zip(rules, given), start=1):
                        leaves, lines, outputs = step_by_definition(program, rule, len(each))
                        used = set(outputs)
                        for index in needed_by_definition(leaves, lines, outputs):
                            used.update(lines[index][2])
                        own = {
                            3 * params + place * inputs + k
                            for place, pair in enumerate(each) if pair == (at, name) for k in range(inputs)
                        }
                        if used & own:
                            first = min(first, number)
                    for step in range(len(given) + 1):
                        self.assertIs(studio.hangs(0, step, source, name), first <= step)
                    found[first <= len(given), studio.uses(0, source, name) == ()] = True
        self.assertEqual(len(found), 3, found)

    def test_a_state_that_does_not_hang_on_a_document_does_not_change_with_it(self):
        chance = random.Random(3737)
        same = 0
        for _ in range(60):
            studio = random_studio(chance)
            text = studio.text(0)
            source = chance.choice(text[2])
            name = chance.choice(source[2])[0]
            studio.edit(0, "put_document", (source[0], name, random_inputs(text[0], chance, 3)))
            for step in range(steps_in(text) + 1):
                if not studio.hangs(0, step, source[0], name):
                    same += 1
                    self.assertEqual(run(studio.text(0), step), run(text, step))
        self.assertGreater(same, 60)


if __name__ == "__main__":
    unittest.main()
