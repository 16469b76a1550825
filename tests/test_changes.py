"""Section 28: the first state that can differ between two texts."""

import copy
import random
import unittest

from lasttext.edits import edited, first_changed
from lasttext.orders import order
from lasttext.programtexts import read_program
from lasttext.runs import asked, documents_of, run
from tests.reference import documents_by_definition
from tests.samples import (
    ALONE, BARE, EXAMPLE, PLAIN, cell, cells, example, random_edit, random_studio, refusal, steps_in,
)

TWO = example((3, 4), ((2, 1, (1,), PLAIN), (2, 2, (1,), PLAIN)))


def by_the_words(old, new):
    """The number by the words of the section."""
    if old[0] != new[0] or old[1] != new[1]:
        return 0
    told = []
    for text in (old, new):
        rules = [segment[3] for segment in text[3] for _ in range(segment[0])]
        told.append([
            (rule, [dict(text[2][at][2])[name] for at, name in documents])
            for rule, documents in zip(rules, documents_by_definition(text))
        ])
    for k in range(1, max(len(told[0]), len(told[1])) + 1):
        if k > len(told[0]) or k > len(told[1]) or told[0][k - 1] != told[1][k - 1]:
            return k
    return None


class Cases(unittest.TestCase):
    def check(self, expected, old, new):
        before = copy.deepcopy((old, new))
        self.assertEqual(first_changed(old, new), expected)
        self.assertEqual(first_changed(new, old), expected)
        self.assertEqual((old, new), before)
        self.assertEqual(by_the_words(old, new), expected)


class Starts(Cases):
    def test_equal_texts(self):
        self.check(None, TWO, TWO)
        self.check(None, TWO, copy.deepcopy(TWO))
        self.check(None, (BARE, (cell(1),), (), (), ()), (BARE, (cell(1),), (), (), ()))

    def test_other_programs(self):
        self.check(0, TWO, (ALONE, *TWO[1:]))
        # The same steps under other names.
        renamed = (
            "param v 1 1\ninput x 1 1\ny = times v x\nloss y\n",
            "param w 1 1\ninput z 1 1\ny = times w z\nloss y\n",
            "param w 1 1\ninput x 1 1\nz = times w x\nloss z\n",
            "param w 1 1\ninput x 1 1\ny = times w x\nloss w\n",
            "param w 1 1\ninput x 1 1\ny = times x w\nloss y\n",
        )
        for program in renamed:
            self.check(0, TWO, (read_program(program), *TWO[1:]))

    def test_other_starts(self):
        self.check(0, TWO, (EXAMPLE, (cell(3),), *TWO[2:]))
        # Both differ.
        self.check(0, TWO, (ALONE, (cell(3),), *TWO[2:]))
        # Also where there are no steps.
        self.check(0, (BARE, (cell(1),), (), (), ()), (BARE, (cell(2),), (), (), ()))

    def test_tests_do_not_count(self):
        self.check(None, TWO, (*TWO[:4], cells(1, 2)))


class Steps(Cases):
    def with_segments(self, *segments):
        return (*TWO[:3], segments, ())

    def test_one_step_more_or_less(self):
        first, second = TWO[3]
        self.check(4, TWO, self.with_segments(first, (1, 2, (1,), PLAIN)))
        self.check(5, TWO, self.with_segments(first, (3, 2, (1,), PLAIN)))
        self.check(5, TWO, self.with_segments(first, second, (1, 1, (1,), PLAIN)))
        self.check(3, TWO, self.with_segments(first))
        self.check(1, TWO, self.with_segments())

    def test_other_settings(self):
        first, second = TWO[3]
        for at in range(5):
            settings = list(PLAIN)
            settings[at] += 1
            self.check(1, TWO, self.with_segments((2, 1, (1,), tuple(settings)), second))
            self.check(3, TWO, self.with_segments(first, (2, 2, (1,), tuple(settings))))

    def test_another_number_of_documents(self):
        first, second = TWO[3]
        self.check(1, TWO, self.with_segments((2, 2, (1,), PLAIN), second))
        self.check(3, TWO, self.with_segments(first, (2, 3, (1,), PLAIN)))
        # Also where documents have no matrices.
        sources = (("a", 0, (("d", ()),)),)
        old = (BARE, (cell(1),), sources, ((3, 1, (1,), PLAIN),), ())
        new = (BARE, (cell(1),), sources, ((1, 1, (1,), PLAIN), (2, 2, (1,), PLAIN)), ())
        self.check(2, old, new)

    def test_the_same_steps_in_other_segments(self):
        first, second = TWO[3]
        # The source goes on, so that a segment that is divided gives the same documents.
        self.check(None, TWO, self.with_segments((1, 1, (1,), PLAIN), (1, 1, (1,), PLAIN), second))
        self.check(None, TWO, self.with_segments((2, 1, (7,), PLAIN), second))

    def test_other_matrices(self):
        given = [name for documents in documents_of(TWO) for _, name in documents]
        self.assertEqual(given[:2], list(order(5, 0, ("d0", "d1"))))
        for at, name in enumerate(given[:2]):
            changed = edited(TWO, "put_document", ("a", name, (cell(9),)))
            self.check(at + 1, TWO, changed)

    def test_the_same_matrices_under_other_names(self):
        text = example((3, 3, 3), TWO[3])
        for names in (("x", "y", "z"), ("d2", "q", "d0")):
            sources = (("b", 77, tuple((name, (cell(3),)) for name in names)),)
            self.check(None, text, (*text[:2], sources, *text[3:]))
        # Another number of documents of the source does not count either.
        self.check(None, text, (*text[:2], (("a", 5, cells(3)),), *text[3:]))
        # Another source may give them.
        sources = (("b", 1, cells(4)), ("a", 5, cells(3, 3, 3)))
        segments = tuple((steps, batch, (0, *weights), settings) for steps, batch, weights, settings in text[3])
        self.check(None, text, (*text[:2], sources, segments, ()))

    def test_the_order_of_the_documents_of_a_step_counts(self):
        sources = (("a", 0, cells(1)), ("b", 0, cells(2)))
        old = (EXAMPLE, (cell(2),), sources, ((2, 2, (1, 1), PLAIN),), ())
        new = (EXAMPLE, (cell(2),), (sources[1], sources[0]), ((2, 2, (1, 1), PLAIN),), ())
        self.check(1, old, new)

    def test_seeds_that_do_and_that_do_not_change_the_order(self):
        names = ("d0", "d1", "d2")
        text = example((3, 4, 5), ((3, 1, (1,), PLAIN), (3, 1, (1,), PLAIN)))
        found = set()
        for seed in range(40):
            rounds = [(order(5, number, names), order(seed, number, names)) for number in range(2)]
            given = [pair for old, new in rounds for pair in zip(old, new)]
            expected = next((at + 1 for at, (old, new) in enumerate(given) if old != new), None)
            self.check(expected, text, edited(text, "set_seed", ("a", seed)))
            found.add(expected)
        self.assertTrue({None, 1, 2, 4, 5} >= found and {None, 1, 2} <= found, found)

    def test_edits_whose_difference_comes_in_a_later_segment(self):
        sources = (("a", 0, cells(1)), ("b", 0, cells(2)))
        segments = ((2, 1, (1, 0), PLAIN), (2, 1, (1, 1), PLAIN), (1, 1, (0, 1), PLAIN))
        text = (EXAMPLE, (cell(2),), sources, segments, ())
        self.check(4, text, edited(text, "put_document", ("b", "d0", (cell(9),))))
        self.check(1, text, edited(text, "put_document", ("a", "d0", (cell(9),))))
        self.check(5, text, edited(text, "set_segment", (2, (1, 1, (1, 0), PLAIN))))
        self.check(3, text, edited(text, "drop_segment", (1,)))
        self.check(5, text, edited(text, "drop_segment", (2,)))
        self.check(6, text, edited(text, "put_segment", (3, (1, 1, (1, 0), PLAIN))))
        # A source without use, and a document that no step has reached.
        self.check(None, text, edited(text, "put_source", ("c", 3)))
        self.check(None, text, edited(edited(text, "put_source", ("c", 3)), "put_document", ("c", "e", (cell(7),))))

    def test_it_does_not_matter_whether_a_run_faults(self):
        text = example((2,), ((4, 1, (1,), PLAIN),), start=9999999)
        self.assertEqual(run(text, 4), ("fault", 1))
        self.check(4, text, (*text[:3], ((3, 1, (1,), PLAIN),), ()))
        self.check(3, text, (*text[:3], ((2, 1, (1,), PLAIN), (2, 2, (1,), PLAIN)), ()))


class Rows(Cases):
    def test_random_edits(self):
        """Section 44: states and operations before the first one that can differ are as before."""
        chance = random.Random(28)
        found = {}
        for _ in range(80):
            old = random_studio(chance, chance.choice((3, 3, 400))).text(0)
            for _ in range(12):
                name, arguments = random_edit(old, chance)
                if refusal(edited, old, name, arguments) is not None:
                    continue
                new = edited(old, name, arguments)
                expected = by_the_words(old, new)
                self.check(expected, old, new)
                found[expected] = True
                last = min(steps_in(old), steps_in(new))
                same = last if expected is None else min(last, expected - 1)
                for step in range(same + 1):
                    self.assertEqual(run(new, step), run(old, step))
                    self.assertEqual(asked(new, step), asked(old, step))
                old = new
        self.assertTrue(set(range(5)) | {None} <= set(found), found)


if __name__ == "__main__":
    unittest.main()
