"""Sections 39 and 40: journals, and studios that are made from them."""

import random
import unittest

from lasttext import journals
from lasttext.errors import BadJournal, LastTextError
from lasttext.journals import restart
from lasttext.programtexts import read_program, write_program
from lasttext.studio import Studio
from tests.samples import BARE, LAYERS, PLAIN, cell, random_edit, random_studio, refusal
from tests.test_branches import Cases, told

BEGINNING = "studio param_w_1_1/input_x_1_1/y_=_times_w_x/loss_y/ 2\n"
# One source with one document.
SOURCE = BEGINNING + "put_source 0 a 5\nput_document 0 a d 3\n"
SEGMENT = "put_segment 0 0 2 1 1 1 1 0 0 0\n"
LAYERS_WORD = write_program(LAYERS).replace(" ", "_").replace("\n", "/")


class Journals(Cases):
    def rights(self, text):
        """A studio with this journal."""
        studio = restart(text)
        self.assertEqual(studio.journal(), text)
        return studio

    def wrong(self, text, line):
        with self.assertRaises(BadJournal) as caught:
            restart(text)
        self.assertEqual(caught.exception.line, line)
        self.assertIsInstance(caught.exception, LastTextError)


class Written(Journals):
    def test_a_line_for_each_kind_of_call(self):
        studio = self.studio()
        self.assertEqual(studio.journal(), BEGINNING)
        program = read_program("param v 1 1\ninput x 1 1\nz = stretch v -7\nloss z\n")
        calls = (
            (("edit", 0, "put_source", ("a", 5)), "put_source 0 a 5"),
            (("edit", 0, "put_source", ("b", 1000000)), "put_source 0 b 1000000"),
            (("edit", 0, "set_seed", ("b", 0)), "set_seed 0 b 0"),
            (("edit", 0, "put_document", ("a", "d", (cell(-9999999),))), "put_document 0 a d -9999999"),
            (("edit", 0, "put_document", ("b", "d", (cell(3),))), "put_document 0 b d 3"),
            (("edit", 0, "drop_document", ("b", "d")), "drop_document 0 b d"),
            (("edit", 0, "put_segment", (0, (2, 1, (1, 0), PLAIN))), "put_segment 0 0 2 1 1,0 1 1 0 0 0"),
            (("edit", 0, "put_segment", (1, (3, 8, (100, 0), (1000, 20, 999, 998, 9)))),
             "put_segment 0 1 3 8 100,0 1000 20 999 998 9"),
            (("edit", 0, "set_segment", (1, (1, 2, (3, 0), PLAIN))), "set_segment 0 1 1 2 3,0 1 1 0 0 0"),
            (("fork", 0), "fork 0"),
            (("edit", 1, "drop_segment", (0,)), "drop_segment 1 0"),
            (("edit", 1, "drop_source", ("b",)), "drop_source 1 b"),
            (("edit", 1, "set_start", ("w", cell(-4))), "set_start 1 w -4"),
            (("undo", 1), "undo 1"),
            (("undo", 1), "undo 1"),
            (("redo", 1), "redo 1"),
            (("take_over", 0, 1), "take_over 0 1"),
            (("edit", 0, "put_test", ("t", (cell(0),))), "put_test 0 t 0"),
            (("edit", 0, "put_test", ("u", (cell(10),))), "put_test 0 u 10"),
            (("edit", 0, "drop_test", ("t",)), "drop_test 0 t"),
            (("edit", 0, "set_program", (program, (cell(8),))),
             "set_program 0 param_v_1_1/input_x_1_1/z_=_stretch_v_-7/loss_z/ 8"),
        )
        expected = BEGINNING
        for (name, *arguments), line in calls:
            getattr(studio, name)(*arguments)
            expected += line + "\n"
            self.assertEqual(studio.journal(), expected)
        again = self.rights(expected)
        self.assertEqual([again.text(branch) for branch in range(2)], [studio.text(branch) for branch in range(2)])

    def test_matrices_of_several_rows_and_columns(self):
        start = (((1, -2), (3, 4)), ((5,), (-6,)), ((7, 8),))
        studio = Studio(LAYERS, start)
        studio.edit(0, "put_source", ("a", 5))
        studio.edit(0, "put_document", ("a", "d", (((1,), (2,)), cell(3))))
        studio.edit(0, "set_start", ("w", ((0, 0), (-1, 9999999))))
        studio.edit(0, "put_test", ("t", (((0,), (-2,)), cell(-3))))
        studio.edit(0, "set_program", (LAYERS, start))
        text = (
            f"studio {LAYERS_WORD} 1,-2;3,4 5;-6 7,8\nput_source 0 a 5\nput_document 0 a d 1;2 3\n"
            "set_start 0 w 0,0;-1,9999999\nput_test 0 t 0;-2 -3\n"
            f"set_program 0 {LAYERS_WORD} 1,-2;3,4 5;-6 7,8\n"
        )
        self.assertEqual(studio.journal(), text)
        self.assertEqual(self.rights(text).text(0), studio.text(0))

    def test_no_matrices(self):
        studio = Studio(BARE, (cell(1),))
        studio.edit(0, "put_source", ("a", 5))
        studio.edit(0, "put_document", ("a", "d", ()))
        studio.edit(0, "put_test", ("t", ()))
        text = "studio param_w_1_1/loss_w/ 1\nput_source 0 a 5\nput_document 0 a d\nput_test 0 t\n"
        self.assertEqual(studio.journal(), text)
        self.assertEqual(self.rights(text).text(0), studio.text(0))

    def test_refused_calls_and_questions_leave_no_line(self):
        studio = self.with_steps()
        studio.edit(0, "put_test", ("t", (cell(1),)))
        text = studio.journal()
        self.refuses("source exists", studio, "edit", 0, "put_source", ("a", 1))
        self.refuses("no branch", studio, "edit", 1, "put_source", ("b", 1))
        self.refuses("nothing to redo", studio, "redo", 0)
        self.refuses("no branch", studio, "fork", 1)
        self.refuses("no branch", studio, "take_over", 0, 1)
        studio.parted(0, 0)
        studio.ask(0, 1)
        studio.test(0, 1)
        studio.best(0, 1)
        studio.open_question(0, 1)
        studio.stop()
        studio.keep_needed()
        studio.keep_newest(0)
        studio.transcript(0, 1)
        self.assertEqual(studio.journal(), text)

    def test_calls_that_change_nothing_leave_a_line(self):
        studio = self.with_steps()
        text = studio.journal()
        studio.edit(0, "set_seed", ("a", 5))
        studio.take_over(0, 0)
        self.assertEqual(studio.journal(), text + "set_seed 0 a 5\ntake_over 0 0\n")


class Restarted(Journals):
    def test_a_new_studio(self):
        studio = self.rights(BEGINNING)
        self.assertEqual(told(studio), told(self.studio()))

    def test_no_table_no_question_and_no_bills(self):
        studio = self.with_steps()
        studio.ask(0, 2)
        studio.open_question(0, 1)
        again = self.rights(studio.journal())
        self.assertEqual((again.table(), again.bills()), ((), ()))
        self.refuses("no question", again, "stop")
        self.assertEqual(again.ask(0, 2)[0], studio.fresh(0, 2)[0])

    def test_undo_and_redo_behind_it(self):
        studio = self.with_steps()
        studio.undo(0)
        studio.fork(0)
        studio.edit(1, "set_start", ("w", cell(7)))
        studio.undo(1)
        again = self.rights(studio.journal())
        for one in (studio, again):
            self.assertEqual(one.redo(0), 1)
            self.assertEqual(one.redo(1), 0)
            self.assertEqual(refusal(one.redo, 0), "nothing to redo")
            for _ in range(3):
                one.undo(0)
            self.assertEqual(refusal(one.undo, 0), "nothing to undo")
        self.assertEqual(told(studio), told(again))

    def test_what_stands_behind_the_last_newline_is_ignored(self):
        for rest in ("", "fork 0", "wrong", " ", "studio", "put_source 0 a 5"):
            studio = restart(SOURCE + rest)
            self.assertEqual(studio.journal(), SOURCE)
            self.assertEqual(restart(BEGINNING + rest).journal(), BEGINNING)

    def test_random_calls(self):
        chance = random.Random(40)
        for _ in range(40):
            studio = random_studio(chance, chance.choice((3, 9999999)))
            for _ in range(30):
                branch = chance.randrange(studio.branches())
                kind = chance.choice(("edit", "edit", "edit", "fork", "undo", "undo", "redo", "take_over"))
                arguments = {"edit": random_edit(studio.text(branch), chance),
                             "take_over": (chance.randrange(studio.branches()),)}.get(kind, ())
                refusal(getattr(studio, kind), branch, *arguments)
            again = self.rights(studio.journal())
            self.assertEqual(again.branches(), studio.branches())
            for branch in range(studio.branches()):
                for kind in ("undo", "redo"):
                    while True:
                        self.assertEqual(again.text(branch), studio.text(branch))
                        reason = refusal(getattr(studio, kind), branch)
                        self.assertEqual(refusal(getattr(again, kind), branch), reason)
                        if reason is not None:
                            break
            self.assertEqual(again.journal(), studio.journal())


class WrongBeginnings(Journals):
    def test_no_newline_at_all(self):
        for text in ("", "studio", "wrong", BEGINNING[:-1], " "):
            self.wrong(text, 1)

    def test_other_first_lines(self):
        for line in ("", " ", "fork 0", "put_source 0 a 5", "studio", "Studio" + BEGINNING[6:-1], "studio "):
            self.wrong(line + "\n", 1)
            self.wrong(line + "\n" + BEGINNING, 1)

    def test_words(self):
        word = BEGINNING.split(" ")[1]
        self.rights(f"studio {word} 2\n")
        for line in (
            f"studio {word}", f"studio {word} ", f"studio {word} 2 ", f"studio {word} 2 2", f"studio  {word} 2",
            f" studio {word} 2", f"studio {word}  2", f"studio 2 {word}", f"studio {word[:-1]} 2",
            f"studio {word}/ 2", f"studio {word}_ 2", f"studio /{word} 2", f"studio {word} 2\n ", f"studio {word} {word}",
            f"studio {word.replace('_', ' ')} 2", f"studio {word.replace('1_1', '1_01')} 2",
            f"studio {word.replace('x_1_1', 'x_1_7')} 2", f"studio {word.replace('param_w', 'param_W')} 2",
            f"studio {word.replace('loss_y', 'loss_z')} 2", f"studio {word.replace('times_w_x', 'times_w')} 2",
        ):
            self.wrong(line + "\n", 2 if line.endswith("\n ") else 1)

    def test_starts(self):
        word = BEGINNING.split(" ")[1]
        for start in ("9999999", "-9999999", "0", "-1"):
            self.rights(f"studio {word} {start}\n")
        for start in (
            "10000000", "-10000000", "99999999999999999999", "-0", "00", "02", "+2", "2.0", "2,", ",2", "2;", ";2", "a",
            "--2", "2-", "1,2", "1;2", "2_0", "",
        ):
            self.wrong(f"studio {word} {start}\n", 1)

    def test_starts_of_several_rows_and_columns(self):
        first = f"studio {LAYERS_WORD} "
        self.rights(first + "1,2;3,4 5;6 7,8\n")
        for start in (
            "1,2;3,4 5;6", "1,2;3,4 5;6 7,8 9", "1,2;3 5;6 7,8", "1;3,4 5;6 7,8", "1,2;3,4 5,6 7,8", "1,2;3,4 5;6 7;8",
            "1,2;3,4; 5;6 7,8", "1,2,;3,4 5;6 7,8", "1,2;;3,4 5;6 7,8", "1,2,3,4 5;6 7,8", "1,2;3,4;5,6 5;6 7,8",
            "1,2;3,4 5;6  7,8", "5;6 1,2;3,4 7,8", "1,2;3,04 5;6 7,8", "1,2;3,10000000 5;6 7,8",
        ):
            self.wrong(first + start + "\n", 1)

    def test_matrices_at_their_bounds(self):
        row = ",".join(str(k) for k in range(6))
        self.rights(f"studio param_w_6_6/y_=_total_w/loss_y/ {';'.join([row] * 6)}\n")
        self.wrong(f"studio param_w_6_6/y_=_total_w/loss_y/ {';'.join([row] * 7)}\n", 1)
        self.wrong(f"studio param_w_6_6/y_=_total_w/loss_y/ {';'.join([row + ',6'] * 6)}\n", 1)

    def test_a_wrong_program_comes_with_its_line_of_the_journal(self):
        self.wrong("studio param_w_1_1/y_=_total_w/ 2\n", 1)
        self.wrong(SOURCE + "set_program 0 param_w_1_1/y_=_total_w/ 2\n", 4)


class WrongLines(Journals):
    def after(self, line, text=SOURCE):
        """The line is right behind the text."""
        self.rights(text + line + "\n")

    def bad(self, line, text=SOURCE):
        """The line is wrong behind the text, also where others follow."""
        count = text.count("\n")
        self.wrong(text + line + "\n", count + 1)
        self.wrong(text + line + "\nfork 0\n", count + 1)
        self.wrong(text + line + "\nwrong\n", count + 1)
        self.wrong(text + "fork 0\n" + line + "\nwrong", count + 2)

    def test_other_words(self):
        for line in (
            "", " ", "wrong", "edit 0 put_source b 5", "Fork 0", "ask 0 1", "text 0", "fork", "0 fork", "studio",
            BEGINNING[:-1], "fork 0 ", " fork 0", "fork  0", "fork 0 0", "call 0", "journal",
        ):
            self.bad(line)

    def test_a_word_too_few_or_too_many_or_empty(self):
        text = SOURCE + SEGMENT + "put_test 0 t 1\nfork 0\nset_seed 0 a 5\nset_seed 0 a 5\nundo 0\n"
        for line in (
            "put_source 0 b 7", "drop_test 0 t", "set_seed 0 a 7", "put_document 0 a e 1", "put_document 0 a d 1",
            "put_segment 0 1 2 1 1 1 1 0 0 0", "set_segment 0 0 2 1 1 1 1 0 0 0", "drop_segment 0 0",
            "set_start 0 w 5", "set_program 0 param_w_1_1/input_x_1_1/loss_w/ 5", "put_test 0 u 1",
            "fork 0", "undo 0", "redo 0", "take_over 0 1", "take_over 1 0",
        ):
            self.after(line, text)
            words = line.split(" ")
            for at in range(len(words) + 1):
                self.bad(" ".join([*words[:at], "", *words[at:]]), text)
                self.bad(" ".join([*words[:at], "0", *words[at:]]), text)
                if at < len(words):
                    self.bad(" ".join([*words[:at], *words[at + 1 :]]), text)
        self.after("drop_document 0 a e", SOURCE + "put_document 0 a e 3\n")
        self.after("drop_source 0 b", SOURCE + "put_source 0 b 3\n")
        for line in ("drop_document 0 a", "drop_document 0 a e e", "drop_document 0 e a", "drop_document a e"):
            self.bad(line, SOURCE + "put_document 0 a e 3\n")
        for line in ("drop_source 0", "drop_source b", "drop_source 0 b b", "drop_source 0 b "):
            self.bad(line, SOURCE + "put_source 0 b 3\n")

    def test_numbers_that_are_not_written_so(self):
        text = SOURCE + SEGMENT
        for line, at in (
            ("put_source 0 b 0", 3), ("set_seed 0 a 0", 3), ("put_document 0 a e 0", 4), ("set_start 0 w 0", 3),
            ("put_test 0 t 0", 3), ("fork 0", 1), ("undo 0", 1), ("drop_segment 0 0", 2), ("drop_segment 0 0", 1),
            ("put_segment 0 0 2 1 1 1 1 0 0 0", 2), ("put_segment 0 0 2 1 1 0 1 0 0 0", 6),
            ("put_segment 0 0 2 1 1 1 1 0 0 0", 8), ("put_segment 0 0 2 1 1 1 1 0 0 0", 9),
            ("put_segment 0 0 2 1 1 1 1 0 0 0", 10), ("take_over 0 0", 1), ("take_over 0 0", 2),
        ):
            self.after(line, text)
            words = line.split(" ")
            self.assertEqual(words[at], "0")
            for wrong in ("00", "-0", "+0", "0.0", "0,", "x", "0_0", "-", "0x0", "0" * 5000):
                self.bad(" ".join([*words[:at], wrong, *words[at + 1 :]]), text)
        for line, at in (("put_segment 0 0 2 1 1 1 1 0 0 0", at) for at in (3, 4, 5, 6, 7)):
            words = line.split(" ")
            for wrong in ("0" + words[at], "+" + words[at], "-" + words[at], words[at] + "."):
                self.bad(" ".join([*words[:at], wrong, *words[at + 1 :]]), text)

    def test_bounds_of_segments(self):
        for at, low, high in (
            (0, "1", "48"), (1, "1", "8"), (2, "1", "100"), (3, "0", "1000"), (4, "1", "20"), (5, "0", "1000"),
            (6, "0", "1000"), (7, "0", "9"),
        ):
            words = ["2", "1", "1", "1", "1", "0", "0", "0"]
            for word in (low, high):
                words[at] = word
                self.after("put_segment 0 0 " + " ".join(words))
                self.after("set_segment 0 0 " + " ".join(words), SOURCE + SEGMENT)
            for word in (str(int(low) - 1), str(int(high) + 1), "-1", "9" * 30, ""):
                words[at] = word
                self.bad("put_segment 0 0 " + " ".join(words))
                self.bad("set_segment 0 0 " + " ".join(words), SOURCE + SEGMENT)

    def test_weights(self):
        text = BEGINNING + "".join(f"put_source 0 {name} 5\nput_document 0 {name} d 3\n" for name in "abce")
        for weights in ("1,0,0,0", "0,0,0,1", "100,100,100,100"):
            self.after(f"put_segment 0 0 2 1 {weights} 1 1 0 0 0", text)
        for weights in (
            "1,0,0", "1,0,0,0,0", "1,0,0,101", "1,0,0,-1", "1,0,0,", ",1,0,0,0", "1,0,,0", "1;0;0;0", "0,0,0,0",
            "01,0,0,0", "1,0,0,-0", "1, 0,0,0",
        ):
            self.bad(f"put_segment 0 0 2 1 {weights} 1 1 0 0 0", text)

    def test_seeds_and_names(self):
        for line in (
            "put_source 0 b 1000000", "put_source 0 abcdefghijkl 5", "put_source 0 z9 5", "put_source 0 fork 5",
            "set_seed 0 a 1000000", "put_document 0 a abcdefghijkl 5", "put_test 0 abcdefghij12 5",
        ):
            self.after(line)
        for name in ("abcdefghijklm", "9z", "B", "b_c", "bC", "b-c", "b/c", "ab1,2"):
            self.bad(f"put_source 0 {name} 5")
            self.bad(f"put_document 0 a {name} 5")
            self.bad(f"put_test 0 {name} 5")
        for seed in ("1000001", "-1", "10000000", "9" * 4400):
            self.bad(f"put_source 0 b {seed}")
            self.bad(f"set_seed 0 a {seed}")

    def test_entries(self):
        for entry in ("9999999", "-9999999", "0", "-1"):
            for line in ("put_document 0 a d", "put_document 0 a e", "put_test 0 t", "set_start 0 w"):
                self.after(f"{line} {entry}")
        for entry in ("10000000", "-10000000", "99999999", "-0", "01", "1,1", "1;1", "1,", "", "x", "1 1"):
            for line in ("put_document 0 a d", "put_document 0 a e", "put_test 0 t", "set_start 0 w"):
                self.bad(f"{line} {entry}")

    def test_branches(self):
        text = SOURCE + "fork 0\n" * 5
        for branch in range(6):
            self.after(f"set_seed {branch} a 7", text)
            self.after(f"take_over {branch} {5 - branch}", text)
        for branch in ("6", "7", "-1", "05", "10", "x"):
            self.bad(f"set_seed {branch} a 7", text[: -len("fork 0\n")])
            self.wrong(text + f"set_seed {branch} a 7\n", 9)
            self.wrong(text + f"take_over 0 {branch}\n", 9)
            self.wrong(text + f"take_over {branch} 0\n", 9)
            self.wrong(text + f"fork {branch}\n", 9)
            self.wrong(text + f"undo {branch}\n", 9)
        self.wrong(text + "fork 0\n", 9)
        self.wrong(SOURCE + "set_seed 1 a 7\nfork 0\n", 4)
        self.wrong(SOURCE + "take_over 0 1\n", 4)

    def test_calls_that_are_refused(self):
        for line in (
            "undo 1", "redo 0", "put_source 0 a 6", "drop_source 0 b", "set_seed 0 b 5", "put_document 0 b d 3",
            "put_document 0 a e", "put_document 0 a e 1 2", "put_document 0 a e 1,2", "drop_document 0 a e",
            "put_segment 0 1 2 1 1 1 1 0 0 0", "put_segment 0 0 2 1 0 1 1 0 0 0", "put_segment 0 0 2 1 1,1 1 1 0 0 0",
            "set_segment 0 0 2 1 1 1 1 0 0 0", "drop_segment 0 0", "drop_segment 0 8", "set_start 0 x 5",
            "set_start 0 w 5,6", "set_program 0 param_w_1_1/loss_w/ 5", "put_test 0 t", "drop_test 0 t",
            "set_program 0 param_w_1_1/input_x_1_1/loss_w/", "set_program 0 param_w_1_1/input_x_1_1/loss_w/ 1 2",
        ):
            self.bad(line)
        self.wrong(BEGINNING + "undo 0\n", 2)
        self.wrong(BEGINNING + "fork 0\nundo 0\nfork 0\n", 3)
        self.wrong(SOURCE + SEGMENT + "drop_source 0 a\n", 5)
        self.wrong(SOURCE + SEGMENT + "drop_document 0 a d\n", 5)
        self.wrong(SOURCE + SEGMENT + "put_segment 0 2 1 1 1 1 1 0 0 0\n", 5)
        self.wrong(SOURCE + SEGMENT + "put_segment 0 1 47 1 1 1 1 0 0 0\n", 5)
        self.rights(SOURCE + SEGMENT + "put_segment 0 1 46 1 1 1 1 0 0 0\n")

    def test_places(self):
        text = SOURCE + "".join(f"put_segment 0 {place} 1 1 1 1 1 0 0 0\n" for place in range(7))
        self.after("put_segment 0 7 1 1 1 1 1 0 0 0", text)
        self.after("put_segment 0 0 1 1 1 1 1 0 0 0", text)
        self.after("set_segment 0 6 1 1 1 1 1 0 0 0", text)
        self.after("drop_segment 0 6", text)
        for line in ("put_segment 0 8 1 1 1 1 1 0 0 0", "set_segment 0 7 1 1 1 1 1 0 0 0", "drop_segment 0 7",
                     "put_segment 0 -1 1 1 1 1 1 0 0 0", "set_segment 0 -1 1 1 1 1 1 0 0 0", "drop_segment 0 -1"):
            self.bad(line, text)

    def test_200_edits(self):
        text = SOURCE + "".join(f"set_seed 0 a {seed}\n" for seed in range(198))
        self.rights(text)
        self.wrong(text + "set_seed 0 a 5\n", 202)
        self.wrong(text + "take_over 0 0\n", 202)
        self.rights(text + "undo 0\nredo 0\nundo 0\nset_seed 0 a 5\n")
        self.wrong(text + "undo 0\nredo 0\nset_seed 0 a 5\n", 204)

    def test_empty_lines(self):
        self.wrong(SOURCE.replace("\n", "\n\n"), 2)
        self.wrong(SOURCE + "\n", 4)
        self.wrong("\n" + SOURCE, 1)


class Files(unittest.TestCase):
    def test_defined_in_its_file(self):
        self.assertEqual(journals.restart.__module__, "lasttext.journals")


if __name__ == "__main__":
    unittest.main()
