"""Sections 23 and 27: texts of runs and their edits."""

import copy
import random
import unittest

from lasttext import edits
from lasttext.edits import (
    drop_document, drop_segment, drop_source, drop_test, edited, new_text, put_document, put_segment, put_source,
    put_test, set_program, set_segment, set_seed, set_start,
)
from lasttext.errors import LastTextError, Refused
from lasttext.programtexts import read_program
from tests.samples import ALONE, BARE, EXAMPLE, LAYERS, PLAIN, cell, cells, random_edit, random_studio, refusal

SEGMENT = (2, 1, (1, 0), PLAIN)
OTHER_SEGMENT = (3, 4, (2, 5), (9, 8, 7, 6, 5))
SOURCES = (("a", 5, cells(1, 2)), ("b", 6, cells(3)))
TESTS = cells(7, 8)
TEXT = (EXAMPLE, (cell(2),), SOURCES, (SEGMENT, OTHER_SEGMENT), TESTS)
EMPTY = (EXAMPLE, (cell(2),), (), (), ())
ROW = ((1, 2),)
COLUMN = ((1,), (2,))


def with_parts(text, **parts):
    """The text with other parts."""
    names = ("program", "start", "sources", "segments", "tests")
    return tuple(parts.get(name, part) for name, part in zip(names, text))


class Cases(unittest.TestCase):
    def gives(self, expected, edit, *arguments):
        before = copy.deepcopy(arguments)
        self.assertEqual(edit(*arguments), expected)
        self.assertEqual(arguments, before)

    def refuses(self, reason, edit, *arguments):
        before = copy.deepcopy(arguments)
        with self.assertRaises(Refused) as caught:
            edit(*arguments)
        self.assertEqual(caught.exception.reason, reason)
        self.assertIsInstance(caught.exception, LastTextError)
        self.assertEqual(arguments, before)


class NewTexts(Cases):
    def program(self, params, inputs):
        """A program with so many params and inputs, of different shapes."""
        lines = [f"param p{k} {k + 1} 2\n" for k in range(params)]
        lines += [f"input i{k} 1 {k + 1}\n" for k in range(inputs)]
        return read_program("".join(lines) + "s = total p0\nloss s\n")

    def test_1_to_6_params_and_0_to_4_inputs(self):
        for params in range(1, 7):
            for inputs in range(5):
                program = self.program(params, inputs)
                start = tuple(((k, -k),) * (k + 1) for k in range(params))
                self.gives((program, start, (), (), ()), new_text, program, start)
                self.refuses("start", new_text, program, start[1:])
                self.refuses("start", new_text, program, start[:-1])
                self.refuses("start", new_text, program, (*start, ((0, 0),)))
                for at in range(params):
                    rows = start[at]
                    shapes = ((*rows, rows[0]), tuple(row[:1] for row in rows), tuple((*row, 0) for row in rows))
                    for matrix in shapes:
                        self.refuses("start", new_text, program, (*start[:at], matrix, *start[at + 1:]))

    def test_rows_and_columns_are_not_exchanged(self):
        program = read_program("param w 1 2\ns = total w\nloss s\n")
        self.gives((program, (ROW,), (), (), ()), new_text, program, (ROW,))
        self.refuses("start", new_text, program, (COLUMN,))
        self.refuses("start", new_text, program, ())

    def test_the_order_of_the_params_counts(self):
        program = read_program("param a 1 2\nparam b 2 1\ns = total a\nloss s\n")
        self.gives((program, (ROW, COLUMN), (), (), ()), new_text, program, (ROW, COLUMN))
        self.refuses("start", new_text, program, (COLUMN, ROW))


class Sources(Cases):
    def test_put_source(self):
        self.gives(with_parts(EMPTY, sources=(("a", 0, ()),)), put_source, EMPTY, "a", 0)
        segments = ((2, 1, (1, 0, 0), PLAIN), (3, 4, (2, 5, 0), (9, 8, 7, 6, 5)))
        expected = with_parts(TEXT, sources=(*SOURCES, ("c", 1000000, ())), segments=segments)
        self.gives(expected, put_source, TEXT, "c", 1000000)

    def test_put_source_refused(self):
        self.refuses("source exists", put_source, TEXT, "a", 5)
        self.refuses("source exists", put_source, TEXT, "b", 7)
        four = put_source(put_source(TEXT, "c", 1), "e", 2)
        self.refuses("too many sources", put_source, four, "f", 3)
        self.refuses("source exists", put_source, four, "e", 3)
        # As soon as one is gone, there is room for one.
        self.assertEqual(len(put_source(drop_source(four, "c"), "f", 3)[2]), 4)

    def test_drop_source(self):
        unused = with_parts(TEXT, segments=(SEGMENT, (1, 1, (7, 0), PLAIN)))
        expected = with_parts(
            TEXT, sources=SOURCES[:1], segments=((2, 1, (1,), PLAIN), (1, 1, (7,), PLAIN))
        )
        self.gives(expected, drop_source, unused, "b")
        first = with_parts(TEXT, segments=((2, 1, (0, 4), PLAIN),))
        self.gives(
            with_parts(TEXT, sources=SOURCES[1:], segments=((2, 1, (4,), PLAIN),)), drop_source, first, "a"
        )
        alone = with_parts(EMPTY, sources=(("a", 5, cells(1)),))
        self.gives(EMPTY, drop_source, alone, "a")

    def test_drop_source_refused(self):
        self.refuses("no source", drop_source, TEXT, "c")
        self.refuses("no source", drop_source, EMPTY, "a")
        self.refuses("source in use", drop_source, TEXT, "a")
        # The second source is used in the second segment alone.
        self.refuses("source in use", drop_source, TEXT, "b")
        self.refuses("source in use", drop_source, with_parts(TEXT, segments=(OTHER_SEGMENT, SEGMENT)), "b")

    def test_put_and_drop_leave_the_text_as_it_was(self):
        self.assertEqual(drop_source(put_source(TEXT, "c", 3), "c"), TEXT)

    def test_set_seed(self):
        self.gives(with_parts(TEXT, sources=(("a", 9, cells(1, 2)), SOURCES[1])), set_seed, TEXT, "a", 9)
        self.gives(with_parts(TEXT, sources=(SOURCES[0], ("b", 0, cells(3)))), set_seed, TEXT, "b", 0)
        self.gives(TEXT, set_seed, TEXT, "a", 5)
        self.refuses("no source", set_seed, TEXT, "c", 9)
        self.refuses("no source", set_seed, TEXT, "d0", 9)


class Documents(Cases):
    def test_a_new_document_stands_behind_the_others(self):
        sources = (("a", 5, (*cells(1, 2), ("e", (cell(9),)))), SOURCES[1])
        self.gives(with_parts(TEXT, sources=sources), put_document, TEXT, "a", "e", (cell(9),))
        # Other sources and the tests may have documents of the same name.
        sources = (SOURCES[0], ("b", 6, (*cells(3), ("d1", (cell(9),)))))
        self.gives(with_parts(TEXT, sources=sources), put_document, TEXT, "b", "d1", (cell(9),))

    def test_a_document_that_is_there_keeps_its_index(self):
        sources = (("a", 5, cells(-4, 2)), SOURCES[1])
        self.gives(with_parts(TEXT, sources=sources), put_document, TEXT, "a", "d0", (cell(-4),))
        sources = (("a", 5, cells(1, -4)), SOURCES[1])
        self.gives(with_parts(TEXT, sources=sources), put_document, TEXT, "a", "d1", (cell(-4),))

    def test_put_document_refused(self):
        self.refuses("no source", put_document, TEXT, "c", "e", (cell(9),))
        for matrices in ((), (cell(1), cell(1)), (ROW,), (COLUMN,)):
            self.refuses("document", put_document, TEXT, "a", "e", matrices)
            self.refuses("document", put_document, TEXT, "a", "d0", matrices)
            self.refuses("no source", put_document, TEXT, "c", "e", matrices)

    def test_a_thirteenth_document(self):
        full = with_parts(TEXT, sources=(("a", 5, cells(*range(12))), SOURCES[1]))
        self.refuses("too many documents", put_document, full, "a", "e", (cell(9),))
        self.refuses("too many documents", put_document, full, "a", "e", (ROW,))
        self.refuses("no source", put_document, full, "c", "e", (cell(9),))
        # One that is there gets its matrices, and other sources have room of their own.
        expected = with_parts(TEXT, sources=(("a", 5, cells(*range(11), 99)), SOURCES[1]))
        self.gives(expected, put_document, full, "a", "d11", (cell(99),))
        self.refuses("document", put_document, full, "a", "d11", (ROW,))
        self.assertEqual(len(put_document(full, "b", "e", (cell(9),))[2][1][2]), 2)
        twelfth = put_document(drop_document(full, "a", "d3"), "a", "e", (cell(9),))
        self.assertEqual([len(twelfth[2][0][2]), twelfth[2][0][2][11]], [12, ("e", (cell(9),))])

    def test_documents_of_several_inputs_and_of_none(self):
        text = (LAYERS, (((0, 0), (0, 0)), ((0,), (0,)), ROW), (("a", 5, ()),), (), ())
        matrices = (COLUMN, cell(3))
        expected = with_parts(text, sources=(("a", 5, (("e", matrices),)),))
        self.gives(expected, put_document, text, "a", "e", matrices)
        for wrong in ((cell(3), COLUMN), (COLUMN,), (COLUMN, cell(3), cell(3)), (COLUMN, COLUMN), (ROW, cell(3))):
            self.refuses("document", put_document, text, "a", "e", wrong)
        text = (BARE, (cell(1),), (("a", 5, ()),), (), ())
        self.gives(with_parts(text, sources=(("a", 5, (("e", ()),)),)), put_document, text, "a", "e", ())
        self.refuses("document", put_document, text, "a", "e", (cell(1),))

    def test_drop_document(self):
        sources = (("a", 5, cells(1, 2)[1:]), SOURCES[1])
        self.gives(with_parts(TEXT, sources=sources), drop_document, TEXT, "a", "d0")
        sources = (("a", 5, cells(1)), SOURCES[1])
        self.gives(with_parts(TEXT, sources=sources), drop_document, TEXT, "a", "d1")
        # The last one may go where the source gives nothing.
        text = with_parts(TEXT, segments=(SEGMENT,))
        self.gives(with_parts(text, sources=(SOURCES[0], ("b", 6, ()))), drop_document, text, "b", "d0")

    def test_drop_document_refused(self):
        self.refuses("no source", drop_document, TEXT, "c", "d0")
        self.refuses("no document", drop_document, TEXT, "a", "d2")
        self.refuses("no document", drop_document, TEXT, "b", "d1")
        self.refuses("source in use", drop_document, TEXT, "b", "d0")
        self.refuses("no document", drop_document, with_parts(EMPTY, sources=(("a", 1, ()),)), "a", "d0")
        one = drop_document(TEXT, "a", "d1")
        self.refuses("source in use", drop_document, one, "a", "d0")
        self.refuses("no document", drop_document, one, "a", "d1")


class Segments(Cases):
    def test_put_segment_at_each_place(self):
        new = (1, 1, (0, 1), PLAIN)
        for place in range(3):
            segments = [SEGMENT, OTHER_SEGMENT]
            segments.insert(place, new)
            self.gives(with_parts(TEXT, segments=tuple(segments)), put_segment, TEXT, place, new)
        text = with_parts(TEXT, segments=())
        self.gives(with_parts(TEXT, segments=(new,)), put_segment, text, 0, new)

    def test_put_segment_behind_the_end_and_too_many(self):
        for place in (3, 4, 100, -1):
            self.refuses("no segment", put_segment, TEXT, place, SEGMENT)
        self.refuses("no segment", put_segment, TEXT, 3, (49, 1, (0, 0), PLAIN))
        eight = with_parts(TEXT, segments=(SEGMENT,) * 8)
        self.refuses("too many segments", put_segment, eight, 0, SEGMENT)
        self.refuses("too many segments", put_segment, eight, 8, SEGMENT)
        self.refuses("too many segments", put_segment, eight, 8, (49, 1, (), PLAIN))
        self.refuses("no segment", put_segment, eight, 9, SEGMENT)
        seven = with_parts(TEXT, segments=(SEGMENT,) * 7)
        self.gives(eight, put_segment, seven, 7, SEGMENT)

    def test_set_segment(self):
        new = (1, 1, (0, 1), PLAIN)
        self.gives(with_parts(TEXT, segments=(new, OTHER_SEGMENT)), set_segment, TEXT, 0, new)
        self.gives(with_parts(TEXT, segments=(SEGMENT, new)), set_segment, TEXT, 1, new)
        for place in (2, 3, -1):
            self.refuses("no segment", set_segment, TEXT, place, new)
            self.refuses("no segment", set_segment, TEXT, place, (49, 1, (), PLAIN))
        eight = with_parts(TEXT, segments=(SEGMENT,) * 8)
        self.gives(with_parts(TEXT, segments=(*(SEGMENT,) * 7, new)), set_segment, eight, 7, new)
        self.refuses("no segment", set_segment, eight, 8, new)
        self.refuses("no segment", set_segment, with_parts(TEXT, segments=()), 0, new)

    def both(self, reason, text, place, segment):
        self.refuses(reason, put_segment, text, place, segment)
        self.refuses(reason, set_segment, text, place, segment)

    def test_weights(self):
        for weights in ((), (1,), (1, 0, 0), (0, 0), (0, 0, 0)):
            self.both("weights", TEXT, 1, (2, 1, weights, PLAIN))
            self.both("weights", TEXT, 1, (49, 1, weights, PLAIN))
        text = with_parts(EMPTY, segments=())
        self.refuses("weights", put_segment, text, 0, (2, 1, (), PLAIN))
        self.refuses("weights", put_segment, text, 0, (2, 1, (1,), PLAIN))

    def test_source_empty(self):
        text = put_source(TEXT, "c", 1)
        for weights in ((0, 0, 1), (1, 1, 100)):
            self.both("source empty", text, 0, (2, 1, weights, PLAIN))
            self.both("source empty", text, 0, (49, 1, weights, PLAIN))
        self.both("weights", text, 0, (2, 1, (1, 1), PLAIN))
        expected = put_segment(text, 0, (2, 1, (1, 0, 0), PLAIN))[3][0]
        self.assertEqual(expected, (2, 1, (1, 0, 0), PLAIN))

    def test_a_forty_ninth_step(self):
        # There are 5 steps, of which 3 are those of the second segment.
        self.gives(with_parts(TEXT, segments=(SEGMENT, (43, 1, (1, 0), PLAIN), OTHER_SEGMENT)),
                   put_segment, TEXT, 1, (43, 1, (1, 0), PLAIN))
        self.refuses("too many steps", put_segment, TEXT, 1, (44, 1, (1, 0), PLAIN))
        self.gives(with_parts(TEXT, segments=(SEGMENT, (46, 1, (1, 0), PLAIN))),
                   set_segment, TEXT, 1, (46, 1, (1, 0), PLAIN))
        self.refuses("too many steps", set_segment, TEXT, 1, (47, 1, (1, 0), PLAIN))
        self.refuses("too many steps", set_segment, TEXT, 0, (46, 1, (1, 0), PLAIN))
        text = with_parts(TEXT, segments=())
        self.gives(with_parts(TEXT, segments=((48, 8, (1, 0), PLAIN),)), put_segment, text, 0, (48, 8, (1, 0), PLAIN))
        self.refuses("too many steps", put_segment, text, 0, (49, 8, (1, 0), PLAIN))

    def test_drop_segment(self):
        self.gives(with_parts(TEXT, segments=(OTHER_SEGMENT,)), drop_segment, TEXT, 0)
        self.gives(with_parts(TEXT, segments=(SEGMENT,)), drop_segment, TEXT, 1)
        for place in (2, 3, -1):
            self.refuses("no segment", drop_segment, TEXT, place)
        self.refuses("no segment", drop_segment, EMPTY, 0)

    def test_beyond_the_limits_nothing_is_raised(self):
        segment = (2, 9, (101, 0), (1001, 21, 1001, 1001, 10))
        self.gives(with_parts(TEXT, segments=(segment, OTHER_SEGMENT)), set_segment, TEXT, 0, segment)
        self.gives(with_parts(TEXT, sources=(("a", 1000001, cells(1, 2)), SOURCES[1])), set_seed, TEXT, "a", 1000001)


class Programs(Cases):
    def test_set_start(self):
        self.gives(with_parts(TEXT, start=(cell(-9),)), set_start, TEXT, "w", cell(-9))
        start = (((0, 0), (0, 0)), ((0,), (0,)), ((0, 0),))
        text = (LAYERS, start, (), (), ())
        self.gives(with_parts(text, start=(start[0], COLUMN, start[2])), set_start, text, "b", COLUMN)
        self.gives(with_parts(text, start=(*start[:2], ROW)), set_start, text, "v", ROW)
        self.refuses("start", set_start, text, "b", ROW)
        self.refuses("start", set_start, text, "v", COLUMN)
        self.refuses("start", set_start, text, "w", cell(1))

    def test_set_start_without_such_a_param(self):
        # Inputs and steps are no params.
        for name in ("z", "x", "y"):
            self.refuses("no param", set_start, TEXT, name, cell(1))
            self.refuses("no param", set_start, TEXT, name, ROW)

    def test_set_program(self):
        self.gives(with_parts(TEXT, program=ALONE, start=(cell(-1),)), set_program, TEXT, ALONE, (cell(-1),))
        for start in ((), (ROW,), (cell(1), cell(1))):
            self.refuses("start", set_program, TEXT, ALONE, start)
            self.refuses("start", set_program, TEXT, BARE, start)

    def test_set_program_with_documents_that_do_not_fit(self):
        self.refuses("document", set_program, TEXT, BARE, (cell(1),))
        only_tests = with_parts(EMPTY, tests=TESTS)
        self.refuses("document", set_program, only_tests, BARE, (cell(1),))
        only_second = with_parts(EMPTY, sources=(("a", 1, ()), ("b", 2, cells(1))))
        self.refuses("document", set_program, only_second, BARE, (cell(1),))
        none = with_parts(EMPTY, sources=(("a", 1, ()), ("b", 2, ())))
        self.gives((BARE, (cell(1),), *none[2:]), set_program, none, BARE, (cell(1),))
        # A program with an input of another shape.
        wide = read_program("param w 1 1\ninput x 1 2\nloss w\n")
        self.refuses("document", set_program, TEXT, wide, (cell(1),))
        self.gives((wide, (cell(1),), *none[2:]), set_program, none, wide, (cell(1),))
        one = with_parts(none, tests=(("e", (ROW,)), ("f", (ROW,))))
        self.gives((wide, (cell(1),), *one[2:]), set_program, one, wide, (cell(1),))


class Tests(Cases):
    def test_put_test(self):
        self.gives(with_parts(TEXT, tests=(*TESTS, ("e", (cell(9),)))), put_test, TEXT, "e", (cell(9),))
        self.gives(with_parts(TEXT, tests=cells(9, 8)), put_test, TEXT, "d0", (cell(9),))
        self.gives(with_parts(TEXT, tests=cells(7, 9)), put_test, TEXT, "d1", (cell(9),))
        for matrices in ((), (cell(1), cell(1)), (ROW,)):
            self.refuses("document", put_test, TEXT, "e", matrices)
            self.refuses("document", put_test, TEXT, "d0", matrices)

    def test_a_thirteenth_test(self):
        full = with_parts(TEXT, tests=cells(*range(12)))
        self.refuses("too many tests", put_test, full, "e", (cell(9),))
        self.refuses("too many tests", put_test, full, "e", (ROW,))
        self.gives(with_parts(TEXT, tests=cells(99, *range(1, 12))), put_test, full, "d0", (cell(99),))
        self.refuses("document", put_test, full, "d0", (ROW,))
        eleven = with_parts(TEXT, tests=cells(*range(11)))
        self.gives(full, put_test, eleven, "d11", (cell(11),))

    def test_drop_test(self):
        self.gives(with_parts(TEXT, tests=TESTS[1:]), drop_test, TEXT, "d0")
        self.gives(with_parts(TEXT, tests=TESTS[:1]), drop_test, TEXT, "d1")
        self.refuses("no document", drop_test, TEXT, "d2")
        self.refuses("no document", drop_test, EMPTY, "d0")


class Rows(Cases):
    def test_random_edits_keep_texts_within_their_form(self):
        chance = random.Random(27)
        found = {}
        for _ in range(60):
            text = random_studio(chance).text(0)
            for _ in range(40):
                name, arguments = random_edit(text, chance)
                before = copy.deepcopy((text, arguments))
                reason = refusal(edited, text, name, arguments)
                self.assertEqual((text, arguments), before)
                found[name, reason] = True
                if reason is None:
                    text = edited(text, name, arguments)
                    self.check_form(text)
        self.assertGreaterEqual(len(found), 25)

    def check_form(self, text):
        program, start, sources, segments, tests = text
        for part in text:
            self.assertIs(type(part), tuple)
        self.assertEqual([(len(m), len(m[0])) for m in start], [leaf[1:] for leaf in program[0]])
        self.assertTrue(len(sources) <= 4 and len(segments) <= 8 and len(tests) <= 12)
        self.assertLessEqual(sum(segment[0] for segment in segments), 48)
        for documents in (tests, *[source[2] for source in sources]):
            self.assertLessEqual(len(documents), 12)
            self.assertEqual(len({name for name, _ in documents}), len(documents))
            for _, matrices in documents:
                self.assertEqual([(len(m), len(m[0])) for m in matrices], [leaf[1:] for leaf in program[1]])
        for segment in segments:
            self.assertEqual([len(segment), len(segment[2])], [4, len(sources)])
            self.assertTrue(any(segment[2]))
            for weight, source in zip(segment[2], sources):
                self.assertTrue(weight == 0 or source[2])


class Files(unittest.TestCase):
    def test_defined_in_their_file(self):
        for name in (
            "new_text", "put_source", "drop_source", "set_seed", "put_document", "drop_document", "put_segment",
            "set_segment", "drop_segment", "set_start", "set_program", "put_test", "drop_test", "first_changed",
        ):
            self.assertEqual(getattr(edits, name).__module__, "lasttext.edits")


if __name__ == "__main__":
    unittest.main()
