"""Sections 29 and 30: studios and their branches."""

import copy
import random
import unittest

from lasttext import studio as studio_file
from lasttext.edits import edited, first_changed, new_text
from lasttext.errors import Refused
from lasttext.programtexts import read_program
from lasttext.studio import Studio
from tests.samples import EXAMPLE, PLAIN, cell, random_edit, random_studio, refusal

METHODS = (
    "text branches edit fork undo redo take_over parted table fresh wanted ask keep_newest keep_needed open_question "
    "give done lost finish stop test best bills uses hangs transcript dispute journal".split()
)


def told(studio):
    """All that a studio tells without a change."""
    texts = tuple(studio.text(branch) for branch in range(studio.branches()))
    return (texts, studio.table(), studio.bills(), studio.journal())


class Cases(unittest.TestCase):
    def refuses(self, reason, studio, name, *arguments):
        before = copy.deepcopy(told(studio))
        arguments_before = copy.deepcopy(arguments)
        with self.assertRaises(Refused) as caught:
            getattr(studio, name)(*arguments)
        self.assertEqual(caught.exception.reason, reason)
        self.assertEqual(told(studio), before)
        self.assertEqual(arguments, arguments_before)

    def studio(self, start=2):
        return Studio(EXAMPLE, (cell(start),))

    def with_steps(self):
        """A studio with one source of one document, and 3 steps."""
        studio = self.studio()
        studio.edit(0, "put_source", ("a", 5))
        studio.edit(0, "put_document", ("a", "d", (cell(3),)))
        studio.edit(0, "put_segment", (0, (3, 1, (1,), PLAIN)))
        return studio


class Beginnings(Cases):
    def test_a_new_studio(self):
        studio = self.studio()
        self.assertEqual(studio.branches(), 1)
        self.assertEqual(studio.text(0), new_text(EXAMPLE, (cell(2),)))
        self.assertEqual((studio.table(), studio.bills()), ((), ()))
        self.refuses("nothing to undo", studio, "undo", 0)
        self.refuses("nothing to redo", studio, "redo", 0)
        for name, arguments in (("give", (0,)), ("done", (0,)), ("lost", (0,)), ("finish", ()), ("stop", ())):
            self.refuses("no question", studio, name, *arguments)

    def test_a_start_that_does_not_fit(self):
        for start in ((), (((1, 2),),), (cell(1), cell(2))):
            with self.assertRaises(Refused) as caught:
                Studio(EXAMPLE, start)
            self.assertEqual(caught.exception.reason, "start")

    def test_studios_have_nothing_in_common(self):
        one, other = self.with_steps(), self.studio()
        one.ask(0, 1)
        self.assertEqual(told(other), told(self.studio()))

    def test_the_methods_stand_in_the_class(self):
        self.assertEqual(Studio.__module__, "lasttext.studio")
        for name in METHODS:
            self.assertIn(name, vars(Studio))
        self.assertTrue(hasattr(studio_file, "Studio"))


class Edits(Cases):
    def test_edits_and_what_they_return(self):
        studio = self.studio()
        self.assertIsNone(studio.edit(0, "put_source", ("a", 5)))
        self.assertIsNone(studio.edit(0, "put_document", ("a", "d", (cell(3),))))
        self.assertEqual(studio.edit(0, "put_segment", (0, (3, 1, (1,), PLAIN))), 1)
        self.assertEqual(studio.edit(0, "put_segment", (1, (2, 1, (1,), PLAIN))), 4)
        self.assertEqual(studio.edit(0, "set_start", ("w", cell(7))), 0)
        self.assertIsNone(studio.edit(0, "set_start", ("w", cell(7))))
        self.assertIsNone(studio.edit(0, "put_test", ("t", (cell(7),))))
        self.assertEqual(
            studio.text(0),
            (
                EXAMPLE, (cell(7),), (("a", 5, (("d", (cell(3),)),)),),
                ((3, 1, (1,), PLAIN), (2, 1, (1,), PLAIN)), (("t", (cell(7),)),),
            ),
        )

    def test_each_edit_by_its_name(self):
        studio = self.with_steps()
        text = studio.text(0)
        calls = (
            ("put_source", ("b", 6)), ("set_seed", ("b", 7)), ("drop_source", ("b",)),
            ("put_document", ("a", "e", (cell(4),))), ("drop_document", ("a", "d")),
            ("put_segment", (0, (2, 2, (1,), PLAIN))), ("set_segment", (1, (1, 1, (2,), PLAIN))),
            ("drop_segment", (0,)), ("set_start", ("w", cell(9))), ("put_test", ("t", (cell(1),))),
            ("set_program", (read_program("param v 1 1\ninput x 1 1\nloss v\n"), (cell(1),))),
            ("drop_test", ("t",)),
        )
        for name, arguments in calls:
            new = edited(text, name, arguments)
            self.assertEqual(studio.edit(0, name, arguments), first_changed(text, new))
            self.assertEqual(studio.text(0), new)
            text = new

    def test_refused(self):
        studio = self.with_steps()
        self.refuses("no branch", studio, "edit", 1, "put_source", ("b", 5))
        self.refuses("no branch", studio, "edit", -1, "put_source", ("b", 5))
        # The reason of the branch comes before that of the edit.
        self.refuses("no branch", studio, "edit", 1, "put_source", ("a", 5))
        self.refuses("source exists", studio, "edit", 0, "put_source", ("a", 5))
        self.refuses("no source", studio, "edit", 0, "drop_source", ("b",))
        self.refuses("no segment", studio, "edit", 0, "drop_segment", (1,))
        self.refuses("no branch", studio, "text", 1)
        self.refuses("no branch", studio, "text", -1)

    def test_a_refused_edit_keeps_the_undone_texts(self):
        studio = self.with_steps()
        newest = studio.text(0)
        studio.undo(0)
        self.refuses("source exists", studio, "edit", 0, "put_source", ("a", 5))
        studio.redo(0)
        self.assertEqual(studio.text(0), newest)

    def test_an_edit_forgets_the_undone_texts(self):
        studio = self.with_steps()
        studio.undo(0)
        studio.edit(0, "set_seed", ("a", 6))
        self.refuses("nothing to redo", studio, "redo", 0)
        # Also one that leaves the text as it is.
        studio.undo(0)
        studio.edit(0, "set_seed", ("a", 5))
        self.refuses("nothing to redo", studio, "redo", 0)


class UndoAndRedo(Cases):
    def test_back_and_forth(self):
        studio = self.studio()
        texts = [studio.text(0)]
        for name, arguments in (
            ("put_source", ("a", 5)), ("put_document", ("a", "d", (cell(3),))),
            ("put_segment", (0, (3, 1, (1,), PLAIN))), ("set_start", ("w", cell(7))), ("set_seed", ("a", 5)),
        ):
            studio.edit(0, name, arguments)
            texts.append(studio.text(0))
        for text, behind, changed in zip(texts[-2::-1], texts[::-1], (None, 0, 1, None, None)):
            self.assertEqual(studio.text(0), behind)
            self.assertEqual(studio.undo(0), changed)
            self.assertEqual(studio.text(0), text)
        self.refuses("nothing to undo", studio, "undo", 0)
        for text, changed in zip(texts[1:], (None, None, 1, 0, None)):
            self.assertEqual(studio.redo(0), changed)
            self.assertEqual(studio.text(0), text)
        self.refuses("nothing to redo", studio, "redo", 0)

    def test_an_edit_in_the_middle(self):
        studio = self.with_steps()
        texts = [studio.text(0)]
        studio.undo(0)
        studio.undo(0)
        studio.redo(0)
        texts.insert(0, studio.text(0))
        studio.edit(0, "set_seed", ("a", 77))
        self.refuses("nothing to redo", studio, "redo", 0)
        studio.undo(0)
        self.assertEqual(studio.text(0), texts[0])
        self.assertEqual(studio.redo(0), None)
        self.assertEqual(studio.text(0)[2][0][1], 77)

    def test_no_branch(self):
        studio = self.with_steps()
        for branch in (1, 6, -1):
            self.refuses("no branch", studio, "undo", branch)
            self.refuses("no branch", studio, "redo", branch)

    def test_200_texts_of_before(self):
        studio = self.studio()
        studio.edit(0, "put_source", ("a", 0))
        for seed in range(1, 200):
            studio.edit(0, "set_seed", ("a", seed))
        self.refuses("too many edits", studio, "edit", 0, "set_seed", ("a", 200))
        self.refuses("too many edits", studio, "take_over", 0, 0)
        # The reason of the edit comes first.
        self.refuses("no source", studio, "edit", 0, "set_seed", ("b", 200))
        self.refuses("no branch", studio, "edit", 1, "set_seed", ("b", 200))
        # Another branch has texts of before of its own.
        self.assertEqual(studio.fork(0), 1)
        studio.edit(1, "set_seed", ("a", 200))
        studio.undo(0)
        self.assertEqual(studio.text(0)[2][0][1], 198)
        studio.redo(0)
        self.refuses("too many edits", studio, "edit", 0, "set_seed", ("a", 200))
        studio.undo(0)
        studio.edit(0, "set_seed", ("a", 300))
        self.refuses("too many edits", studio, "edit", 0, "set_seed", ("a", 301))
        for _ in range(200):
            studio.undo(0)
        self.assertEqual(studio.text(0), new_text(EXAMPLE, (cell(2),)))
        self.refuses("nothing to undo", studio, "undo", 0)
        for _ in range(200):
            studio.redo(0)
        self.assertEqual(studio.text(0)[2][0][1], 300)
        self.refuses("nothing to redo", studio, "redo", 0)
        self.refuses("too many edits", studio, "edit", 0, "set_seed", ("a", 301))


class Forks(Cases):
    def test_a_fork_has_the_text_alone(self):
        studio = self.with_steps()
        studio.undo(0)
        text = studio.text(0)
        self.assertEqual(studio.fork(0), 1)
        self.assertEqual((studio.branches(), studio.text(1)), (2, text))
        self.refuses("nothing to undo", studio, "undo", 1)
        self.refuses("nothing to redo", studio, "redo", 1)
        # The branch that it comes from keeps its own.
        studio.redo(0)
        self.assertEqual(studio.text(1), text)
        studio.edit(1, "set_seed", ("a", 9))
        self.assertEqual(studio.text(0)[2][0][1], 5)

    def test_six_branches(self):
        studio = self.with_steps()
        for number in range(1, 6):
            self.assertEqual(studio.fork(number - 1), number)
            studio.edit(number, "set_seed", ("a", number))
        self.assertEqual(studio.branches(), 6)
        self.refuses("too many branches", studio, "fork", 0)
        self.refuses("too many branches", studio, "fork", 5)
        self.refuses("no branch", studio, "fork", 6)
        self.assertEqual([studio.text(number)[2][0][1] for number in range(6)], [5, 1, 2, 3, 4, 5])

    def test_no_branch(self):
        studio = self.with_steps()
        for branch in (1, -1):
            self.refuses("no branch", studio, "fork", branch)

    def test_take_over(self):
        studio = self.with_steps()
        studio.fork(0)
        studio.edit(1, "set_start", ("w", cell(7)))
        studio.undo(0)
        before, other = studio.text(0), studio.text(1)
        self.assertEqual(studio.take_over(0, 1), 0)
        self.assertEqual([studio.text(0), studio.text(1)], [other, other])
        self.refuses("nothing to redo", studio, "redo", 0)
        self.assertEqual(studio.undo(0), 0)
        self.assertEqual(studio.text(0), before)
        self.assertEqual(studio.redo(0), 0)
        self.assertEqual(studio.text(0), other)
        # Its own text may be taken over, too, as by an edit that changes nothing.
        self.assertIsNone(studio.take_over(0, 0))
        self.assertIsNone(studio.undo(0))
        self.assertEqual(studio.text(0), other)

    def test_take_over_of_what_comes_later(self):
        studio = self.with_steps()
        studio.fork(0)
        studio.edit(1, "put_segment", (1, (1, 1, (1,), PLAIN)))
        self.assertEqual(studio.take_over(0, 1), 4)

    def test_take_over_refused(self):
        studio = self.with_steps()
        studio.fork(0)
        for branch, other in ((0, 2), (2, 0), (2, 2), (0, -1), (-1, 0)):
            self.refuses("no branch", studio, "take_over", branch, other)
            self.refuses("no branch", studio, "parted", branch, other)
        for seed in range(197):
            studio.edit(0, "set_seed", ("a", seed))
        self.refuses("too many edits", studio, "take_over", 0, 1)
        self.refuses("no branch", studio, "take_over", 0, 2)
        self.assertEqual(studio.take_over(1, 0), None)

    def test_parted(self):
        studio = self.with_steps()
        studio.fork(0)
        self.assertIsNone(studio.parted(0, 1))
        studio.edit(1, "put_segment", (1, (1, 1, (1,), PLAIN)))
        self.assertEqual([studio.parted(0, 1), studio.parted(1, 0), studio.parted(1, 1)], [4, 4, None])
        studio.edit(0, "set_start", ("w", cell(7)))
        self.assertEqual([studio.parted(0, 1), studio.parted(1, 0)], [0, 0])


class Rows(Cases):
    def test_random_calls_beside_lists_of_texts(self):
        chance = random.Random(30)
        for _ in range(25):
            studio = random_studio(chance)
            # For each branch the texts of before, the text, and the undone texts.
            branches = [[[], studio.text(0), []]]
            while refusal(studio.undo, 0) is None:
                branches[0][2].insert(0, branches[0][1])
                branches[0][1] = studio.text(0)
            for _ in range(80):
                self.one_call(studio, branches, chance)
                self.assertEqual(studio.branches(), len(branches))
                for number, (_, text, _) in enumerate(branches):
                    self.assertEqual(studio.text(number), text)

    def one_call(self, studio, branches, chance):
        at, other = chance.randrange(len(branches) + 1), chance.randrange(len(branches) + 1)
        kind = chance.choice(("edit", "edit", "fork", "undo", "undo", "redo", "redo", "take_over", "parted"))
        arguments = {"edit": (), "take_over": (other,), "parted": (other,)}.get(kind, ())
        if at == len(branches) or (kind in ("take_over", "parted") and other == len(branches)):
            if kind != "edit":
                self.refuses("no branch", studio, kind, at, *arguments)
            return
        before, text, undone = branches[at]
        if kind == "edit":
            name, arguments = random_edit(text, chance)
            reason = refusal(edited, text, name, arguments)
            if reason is not None:
                self.refuses(reason, studio, "edit", at, name, arguments)
                return
            new = edited(text, name, arguments)
            self.assertEqual(studio.edit(at, name, arguments), first_changed(text, new))
            branches[at] = [[text, *before], new, []]
        elif kind == "fork":
            if len(branches) == 6:
                self.refuses("too many branches", studio, "fork", at)
            else:
                self.assertEqual(studio.fork(at), len(branches))
                branches.append([[], text, []])
        elif kind == "undo" and before:
            self.assertEqual(studio.undo(at), first_changed(text, before[0]))
            branches[at] = [before[1:], before[0], [text, *undone]]
        elif kind == "redo" and undone:
            self.assertEqual(studio.redo(at), first_changed(text, undone[0]))
            branches[at] = [[text, *before], undone[0], undone[1:]]
        elif kind in ("undo", "redo"):
            self.refuses(f"nothing to {kind}", studio, kind, at)
        elif kind == "take_over":
            new = branches[other][1]
            self.assertEqual(studio.take_over(at, other), first_changed(text, new))
            branches[at] = [[text, *before], new, []]
        else:
            self.assertEqual(studio.parted(at, other), first_changed(text, branches[other][1]))


if __name__ == "__main__":
    unittest.main()
