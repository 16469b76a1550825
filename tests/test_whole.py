"""Sections 41, 42, 44 and 45: what holds of the whole program, and the example."""

import copy
import random
import unittest

from lasttext.back import plan
from lasttext.edits import edited, first_changed
from lasttext.journals import restart
from lasttext.lines import needed
from lasttext.matrices import operate
from lasttext.orders import order, shares
from lasttext.programtexts import read_program, write_program
from lasttext.runs import asked, documents_of, run, step_lines
from lasttext.studio import Studio
from tests.reference import Reference, different
from tests.samples import PLAIN, cell, random_edit, random_studio, refusal, steps_in
from tests.test_questions import Counted


class Caller:
    """Does random calls of all sorts, and says what was computed."""

    def __init__(self, case, chance, drops):
        self.case = case
        self.chance = chance
        self.drops = drops
        self.studio = random_studio(chance, chance.choice((3, 3, 3, 400)))
        # What the open question is about, and what it has put in.
        self.question = None
        self.put_in = 0
        self.seen = {}

    def call(self):
        chance, studio = self.chance, self.studio
        branch = chance.randrange(studio.branches())
        text = studio.text(branch)
        kind = chance.choice((
            "edit", "edit", "edit", "undo", "redo", "fork", "take_over", "ask", "ask", "test", "best",
            "open", "work", "work", "work", "finish", "stop", "drop",
        ))
        if kind == "edit":
            refusal(studio.edit, branch, *random_edit(text, chance))
        elif kind in ("undo", "redo", "fork"):
            refusal(getattr(studio, kind), branch)
        elif kind == "take_over":
            studio.take_over(branch, chance.randrange(studio.branches()))
        elif kind == "open" and self.question is None:
            step = chance.randint(0, steps_in(text))
            studio.open_question(branch, step)
            self.question, self.put_in = (text, step, branch), 0
        elif kind == "work" and self.question is not None:
            self.work(chance.randint(1, 40))
        elif kind == "finish" and self.question is not None:
            self.finish()
        elif kind == "stop" and self.question is not None and chance.random() < 0.3:
            studio.stop()
            self.question, self.put_in = None, 0
        elif kind == "drop" and self.drops and chance.random() < 0.5:
            if chance.random() < 0.5:
                studio.keep_needed()
            else:
                studio.keep_newest(chance.randint(0, len(studio.table())))
        elif kind in ("ask", "test", "best") and self.question is None:
            self.answer(kind, branch, text, chance.randint(0, steps_in(text)))

    def work(self, count):
        for _ in range(count):
            worker = self.chance.randrange(6)
            refusal(self.studio.give, worker)
            if self.chance.random() < 0.6:
                before = len(self.studio.table())
                refusal(self.studio.done, worker)
                self.put_in += len(self.studio.table()) - before
            elif self.chance.random() < 0.2:
                refusal(self.studio.lost, worker)

    def finish(self):
        found = self.studio.finish()
        if found is None:
            return
        text, step, branch = self.question
        self.case.assertEqual(found, (run(text, step), self.put_in))
        self.case.assertEqual(found[0], Reference(text).result(step))
        self.case.assertEqual(self.studio.bills()[-1], (branch, step, self.put_in))
        self.question, self.put_in = None, 0
        self.seen["finish", found[0][0]] = True

    def answer(self, kind, branch, text, step):
        if kind != "ask" and not text[4]:
            return
        reference = Reference(text)
        known = {entry[0] for entry in self.studio.table()}
        new = [operation for operation in different(reference.asked(step)) if operation not in known]
        with Counted() as counted:
            found = getattr(self.studio, kind)(branch, step)
        if kind == "ask":
            self.case.assertEqual(found, (reference.result(step), len(new)))
            self.case.assertEqual(counted.operations, new)
        elif kind == "test":
            result = reference.result(step)
            fault = result[1] if result[0] == "fault" else None
            self.case.assertEqual(found[:2], (fault, reference.tests(step)[0]))
        else:
            losses = [(reference.tests(number)[0], number) for number in range(step + 1)]
            losses = [pair for pair in losses if pair[0] is not None]
            self.case.assertEqual(found[:2], min(losses)[::-1] if losses else (None, None))
        # Nothing is computed that was kept, and nothing twice.
        self.case.assertEqual(len(counted.operations), found[-1])
        self.case.assertEqual(len(self.studio.table()), len(known) + found[-1])
        self.seen[kind, found[0] is None] = True


class WhatHolds(unittest.TestCase):
    def test_answers_and_the_table_whatever_calls_there_were(self):
        chance = random.Random(41)
        seen = {}
        for _ in range(40):
            caller = Caller(self, chance, True)
            for _ in range(60):
                caller.call()
            table = caller.studio.table()
            self.assertEqual(len({entry[0] for entry in table}), len(table))
            for operation, result in table:
                self.assertEqual(operate(*operation), result)
            seen.update(caller.seen)
        self.assertEqual(len(seen), 7, seen)

    def test_bills_and_the_table_as_long_as_nothing_is_dropped(self):
        chance = random.Random(42)
        opened = 0
        for _ in range(40):
            caller = Caller(self, chance, False)
            for _ in range(50):
                caller.call()
                bills = sum(bill[2] for bill in caller.studio.bills())
                self.assertEqual(bills + caller.put_in, len(caller.studio.table()))
                opened += caller.put_in > 0
        self.assertGreater(opened, 50)

    def test_each_operation_is_computed_once_as_long_as_nothing_is_dropped(self):
        chance = random.Random(4242)
        for _ in range(20):
            studio = random_studio(chance)
            with Counted() as counted:
                for _ in range(10):
                    refusal(studio.edit, 0, *random_edit(studio.text(0), chance))
                    studio.ask(0, chance.randint(0, steps_in(studio.text(0))))
            self.assertEqual(len(set(counted.operations)), len(counted.operations))
            self.assertEqual(len(studio.table()), len(counted.operations))

    def test_a_restarted_studio_answers_the_same(self):
        chance = random.Random(4141)
        for _ in range(20):
            caller = Caller(self, chance, True)
            for _ in range(40):
                caller.call()
            again = restart(caller.studio.journal())
            for branch in range(again.branches()):
                last = steps_in(again.text(branch))
                self.assertEqual(again.ask(branch, last)[0], caller.studio.fresh(branch, last)[0])


class Edits(unittest.TestCase):
    def test_states_and_operations_before_the_first_one_that_can_differ(self):
        chance = random.Random(440)
        seen = set()
        for _ in range(60):
            studio = random_studio(chance, chance.choice((3, 3, 400)))
            for _ in range(8):
                old = studio.text(0)
                name, arguments = random_edit(old, chance)
                if refusal(edited, old, name, arguments) is not None:
                    continue
                changed = studio.edit(0, name, arguments)
                new = studio.text(0)
                self.assertEqual(changed, first_changed(old, new))
                last = min(steps_in(old), steps_in(new))
                same = last if changed is None else changed - 1
                for step in range(min(same, last) + 1):
                    self.assertEqual(studio.fresh(0, step)[0], run(old, step))
                    self.assertEqual(asked(new, step), asked(old, step))
                seen.add(changed)
        self.assertTrue({None, 0, 1, 2, 3} <= seen, seen)

    def test_the_order_of_the_other_documents(self):
        """A document that is put in or dropped leaves it as it was, in all rounds."""
        chance = random.Random(441)
        for _ in range(30):
            names = [f"d{k}" for k in range(chance.randint(2, 11))]
            text = (read_program("param w 1 1\nloss w\n"), (cell(1),), (), (), ())
            text = edited(text, "put_source", ("a", chance.randint(0, 1000000)))
            for name in names:
                text = edited(text, "put_document", ("a", name, ()))
            text = edited(text, "put_segment", (0, (48, 1, (1,), PLAIN)))
            dropped = chance.choice(names)
            for one, other in (
                (edited(text, "drop_document", ("a", dropped)), text),
                (text, edited(text, "put_document", ("a", "new", ()))),
            ):
                few, many = self.rounds(one), self.rounds(other)
                extra = ({name for each in many for name in each} - {name for each in few for name in each}).pop()
                for first, second in zip(few, many):
                    self.assertEqual(first, [name for name in second if name != extra])

    def rounds(self, text):
        """The full rounds of the only source."""
        names = [name for documents in documents_of(text) for _, name in documents]
        count = len(text[2][0][2])
        found = [names[at : at + count] for at in range(0, 48 - count + 1, count)]
        for number, each in enumerate(found):
            self.assertEqual(tuple(each), order(text[2][0][1], number, tuple(sorted(each))))
        return found

    def test_every_source_gives_about_its_share(self):
        chance = random.Random(442)
        for _ in range(100):
            weights = [chance.choice((0, 1, 7, 50, 100)) for _ in range(chance.randint(1, 4))]
            weights[chance.randrange(len(weights))] += 1
            whole, k = sum(weights), len(weights)
            for count in (0, 1, 2, 5, 17, 100, 384):
                given = shares(tuple(weights), count)
                for source, weight in enumerate(weights):
                    self.assertLess(abs(given.count(source) * whole - count * weight), k * whole)


class Example(unittest.TestCase):
    """Section 45."""

    TEXT = "param w 1 1\ninput x 1 1\ny = times w x\nloss y\n"

    def studio(self):
        studio = Studio(read_program(self.TEXT), (cell(2),))
        studio.edit(0, "put_source", ("a", 0))
        studio.edit(0, "put_document", ("a", "d", (cell(3),)))
        studio.edit(0, "put_segment", (0, (2, 1, (1,), (1, 1, 0, 0, 0))))
        return studio

    def test_the_plan_and_the_lines(self):
        program = read_program(self.TEXT)
        self.assertEqual(write_program(program), self.TEXT)
        self.assertEqual(
            plan(program),
            (2, (("times", (), (0, 1)), ("fill", (1, 1, 1), ()), ("times", (), (3, 1)), ("times", (), (3, 0))), 2, (4,)),
        )
        lines, outputs = step_lines(program, (1, 1, 0, 0, 0), 1)
        self.assertEqual(len(lines), 7)
        self.assertEqual(needed(4, lines, outputs), (0, 1, 2, 4, 5, 6))

    def test_step_1(self):
        studio = self.studio()
        state, count = studio.ask(0, 1)
        self.assertEqual((state, count), (("state", (cell(0),), (cell(3),), (cell(0),), (6,)), 6))
        self.assertEqual(len(studio.table()), 6)
        self.assertEqual(studio.transcript(0, 1), (cell(6), cell(1), cell(3), cell(3), cell(2), cell(0)))

    def test_step_2(self):
        studio = self.studio()
        studio.ask(0, 1)
        result = ("state", (((-2,),),), (((3,),),), (((0,),),), (6, 0))
        self.assertEqual(studio.ask(0, 2), (result, 2))
        self.assertEqual(
            [entry[0] for entry in studio.table()[6:]],
            [("times", (), (cell(0), cell(3))), ("sub", (), (cell(0), cell(2)))],
        )
        self.assertEqual((run(studio.text(0), 2), studio.fresh(0, 2)), (result, (result, 8)))
        self.assertEqual(studio.bills(), ((0, 1, 6), (0, 2, 2)))
        self.assertEqual(self.studio().ask(0, 2), (result, 8))

    def test_texts_are_not_changed_by_questions(self):
        studio = self.studio()
        text = studio.text(0)
        before = copy.deepcopy(text)
        studio.ask(0, 2)
        studio.open_question(0, 2)
        studio.finish()
        self.assertEqual(text, before)
        self.assertEqual(studio.text(0), before)


if __name__ == "__main__":
    unittest.main()
