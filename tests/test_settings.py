"""Sections 20 to 22: tree sums, how a param goes on by a gradient, and what is sent."""

import copy
import random
import unittest

from lasttext import settings as module
from lasttext.matrices import operate
from lasttext.settings import SettingsWriter, advance, send, sum_tree

MOST = 9999999


def cell(entry):
    return ((entry,),)


# For each number of values the additions of the tree in their order, each by
# the first value that it sums up and the one behind its last.
ADDITIONS = {
    1: (),
    2: ((0, 2),),
    3: ((0, 2), (0, 3)),
    4: ((0, 2), (2, 4), (0, 4)),
    5: ((0, 2), (0, 3), (3, 5), (0, 5)),
    7: ((0, 2), (2, 4), (0, 4), (4, 6), (4, 7), (0, 7)),
    24: (
        (0, 2), (0, 3), (3, 5), (3, 6), (0, 6),
        (6, 8), (6, 9), (9, 11), (9, 12), (6, 12), (0, 12),
        (12, 14), (12, 15), (15, 17), (15, 18), (12, 18),
        (18, 20), (18, 21), (21, 23), (21, 24), (18, 24), (12, 24), (0, 24),
    ),
}


def expected_sum(entries):
    """The sum of cells with these entries, by the table above."""
    for at, (first, behind) in enumerate(ADDITIONS[len(entries)]):
        if abs(sum(entries[first:behind])) > MOST:
            return (None, at + 1)
    return (cell(sum(entries)), len(entries) - 1)


class SumTree(unittest.TestCase):
    def test_sums_and_numbers_of_additions(self):
        for count in ADDITIONS:
            entries = [3 ** (k % 7) - 40 * k for k in range(count)]
            self.assertEqual(
                sum_tree(tuple(cell(entry) for entry in entries)), (cell(sum(entries)), count - 1)
            )

    def test_one_value_is_its_own_sum(self):
        self.assertEqual(sum_tree((((1, 2), (3, MOST)),)), (((1, 2), (3, MOST)), 0))

    def test_matrices_entry_by_entry(self):
        given = (((1, -2),), ((10, 20),), ((100, -200),))
        self.assertEqual(sum_tree(given), (((111, -182),), 2))

    def test_a_fault_in_each_addition(self):
        for count, additions in ADDITIONS.items():
            seen = set()
            chance = random.Random(count)
            for _ in range(20000):
                # Large ones that undo each other, so that any part of the tree may be the first too large.
                entries = [0] * count
                for _ in range(chance.randint(1, 3)):
                    entries[chance.randrange(count)] = chance.choice((-1, 1)) * chance.choice((5000000, 3333334))
                given = tuple(cell(entry) for entry in entries)
                found = sum_tree(given)
                self.assertEqual(found, expected_sum(entries), entries)
                if found[0] is None:
                    seen.add(found[1])
                if len(seen) == len(additions):
                    break
            self.assertEqual(seen, set(range(1, len(additions) + 1)), count)

    def test_the_first_half_is_the_larger_one(self):
        # 3 values: the first two are added first.
        self.assertEqual(sum_tree((cell(MOST), cell(1), cell(-1))), (None, 1))
        self.assertEqual(sum_tree((cell(-1), cell(1), cell(MOST))), (cell(MOST), 2))
        # 5 values: three and two.
        self.assertEqual(sum_tree((cell(0), cell(0), cell(MOST), cell(1), cell(-1))), (cell(MOST), 4))
        self.assertEqual(sum_tree((cell(0), cell(0), cell(-1), cell(MOST), cell(1))), (None, 3))

    def test_matrices_of_unlike_shapes_fault(self):
        row, column = ((1, 2),), ((1,), (2,))
        self.assertEqual(sum_tree((row, column)), (None, 1))
        self.assertEqual(sum_tree((row, row, column)), (None, 2))
        self.assertEqual(sum_tree((row, row, column, row, row)), (None, 2))
        self.assertEqual(sum_tree((row, row, row, row, column)), (None, 3))
        self.assertEqual(sum_tree((row, row, row, column, column)), (None, 4))

    def test_the_argument_is_unchanged(self):
        given = [cell(1), cell(2), cell(3)]
        before = copy.deepcopy(given)
        sum_tree(given)
        self.assertEqual(given, before)
        self.assertEqual(sum_tree(tuple(given)), sum_tree(given))


class Bounded(Exception):
    pass


def bounded(entry):
    if abs(entry) > MOST:
        raise Bounded()
    return entry


def advance_entry(settings, weight, momentum, residue, gradient):
    """Section 21 on integers."""
    rate, shift, kept, decay, coarse = settings
    sent, new_residue = gradient, residue
    if coarse:
        whole = bounded(gradient + residue)
        sent = bounded(2**coarse * ((whole + 2 ** (coarse - 1)) // 2**coarse))
        new_residue = bounded(whole - sent)
    new_momentum = sent
    if kept:
        new_momentum = bounded((bounded(kept * momentum) + 512) // 1024 + sent)
    step = (bounded(rate * new_momentum) + 2 ** (shift - 1)) // 2**shift
    new_weight = bounded(weight - step)
    if decay:
        new_weight = bounded(new_weight - (bounded(decay * weight) + 512) // 1024)
    return (new_weight, new_momentum, new_residue)


class Advance(unittest.TestCase):
    def check(self, settings, given, expected):
        """The numbers given are the entries of weight, momentum, residue and gradient."""
        found = advance(settings, *(cell(entry) for entry in given))
        self.assertEqual(found, None if expected is None else tuple(cell(entry) for entry in expected))

    def test_only_rate_and_shift(self):
        self.check((1, 1, 0, 0, 0), (2, 0, 0, 3), (0, 3, 0))
        self.check((1, 1, 0, 0, 0), (0, 3, 0, 3), (-2, 3, 0))
        self.check((10, 2, 0, 0, 0), (100, 55, 66, 7), (100 - 18, 7, 66))

    def test_the_old_momentum_and_the_residue_do_not_count_where_their_settings_are_0(self):
        self.check((8, 3, 0, 0, 0), (100, MOST, MOST, 5), (95, 5, MOST))
        self.check((8, 3, 0, 0, 0), (100, -MOST, -MOST, 5), (95, 5, -MOST))

    def test_rate_0_and_at_its_end(self):
        self.check((0, 1, 0, 0, 0), (100, 0, 0, 5), (100, 5, 0))
        self.check((1000, 1, 0, 0, 0), (100, 0, 0, 5), (100 - 2500, 5, 0))
        self.check((1000, 20, 0, 0, 0), (100, 0, 0, 9999), (100 - 10, 9999, 0))

    def test_shifts_at_their_ends_and_halves(self):
        for gradient, step in ((3, 2), (1, 1), (-1, 0), (-3, -1), (2, 1), (-2, -1)):
            self.check((1, 1, 0, 0, 0), (0, 0, 0, gradient), (-step, gradient, 0))
        for gradient, step in ((524287, 0), (524288, 1), (-524288, 0), (-524289, -1)):
            self.check((1, 20, 0, 0, 0), (0, 0, 0, gradient), (-step, gradient, 0))

    def test_momentum(self):
        # 512 * 3 = 1536, and (1536 + 512) // 1024 = 2; below 0 (-1536 + 512) // 1024 = -1.
        self.check((2, 1, 512, 0, 0), (50, 3, 0, 10), (50 - 12, 12, 0))
        self.check((2, 1, 512, 0, 0), (50, -3, 0, 10), (50 - 9, 9, 0))
        self.check((2, 1, 1, 0, 0), (50, 511, 0, 10), (40, 10, 0))
        self.check((2, 1, 1, 0, 0), (50, 512, 0, 10), (39, 11, 0))
        self.check((2, 1, 1000, 0, 0), (50, 1024, 0, 0), (50 - 1000, 1000, 0))

    def test_decay_takes_from_the_old_weight(self):
        # The weight before the step counts: 512 * 5 = 2560, and (2560 + 512) // 1024 = 3.
        self.check((2, 1, 0, 512, 0), (5, 0, 0, 100), (5 - 100 - 3, 100, 0))
        self.check((2, 1, 0, 512, 0), (-5, 0, 0, 100), (-5 - 100 + 2, 100, 0))
        self.check((0, 1, 0, 1000, 0), (1024, 0, 0, 100), (24, 100, 0))
        self.check((0, 1, 0, 1, 0), (512, 0, 0, 100), (511, 100, 0))
        self.check((0, 1, 0, 1, 0), (511, 0, 0, 100), (511, 100, 0))
        self.check((0, 1, 0, 1, 0), (-512, 0, 0, 100), (-512, 100, 0))
        self.check((0, 1, 0, 1, 0), (-513, 0, 0, 100), (-512, 100, 0))

    def test_coarse(self):
        # 5 + 2 = 7 is sent as 8, and -1 is kept.
        self.check((2, 1, 0, 0, 2), (100, 0, 2, 5), (92, 8, -1))
        self.check((2, 1, 0, 0, 2), (100, 0, 1, 5), (92, 8, -2))
        self.check((2, 1, 0, 0, 2), (100, 0, 0, 5), (96, 4, 1))
        self.check((2, 1, 0, 0, 1), (100, 0, 0, -5), (104, -4, -1))
        self.check((2, 1, 0, 0, 9), (100, 0, 0, 255), (100, 0, 255))
        self.check((2, 1, 0, 0, 9), (100, 0, 0, 256), (100 - 512, 512, -256))
        self.check((2, 1, 0, 0, 9), (100, 0, -1, -256), (100 + 512, -512, 255))
        self.check((2, 1, 0, 0, 9), (100, 0, 0, -256), (100, 0, -256))

    def test_all_settings_at_once(self):
        # 7 is sent as 8; 512 of 9 is 5, so 13; 3 * 13 = 39, by 4 it is 10; 256 of 10 is 3.
        self.check((3, 2, 512, 256, 2), (10, 9, 2, 5), (10 - 10 - 3, 13, -1))

    def test_matrices_entry_by_entry(self):
        given = (((10, 0), (-5, 7)), ((9, 0), (1, -1)), ((2, 0), (3, -3)), ((5, -7), (0, 600)))
        settings = (3, 2, 512, 256, 2)
        found = advance(settings, *given)
        for row in range(2):
            for column in range(2):
                entries = [matrix[row][column] for matrix in given]
                self.assertEqual(
                    tuple(matrix[row][column] for matrix in found), advance_entry(settings, *entries)
                )

    def test_a_fault_in_the_sum_with_the_residue(self):
        self.check((0, 1, 0, 0, 1), (0, 0, 1, MOST), None)
        self.check((0, 1, 0, 0, 1), (0, 0, -1, -MOST), None)
        self.check((0, 1, 0, 0, 1), (0, 0, 0, -MOST), (0, -9999998, -1))

    def test_a_fault_in_what_is_sent(self):
        # 9999999 is rounded up to 10000000.
        self.check((0, 1, 0, 0, 1), (0, 0, 0, MOST), None)
        self.check((0, 1, 0, 0, 1), (0, 0, 0, 9999998), (0, 9999998, 0))
        self.check((0, 1, 0, 0, 7), (0, 0, 0, 9999936), None)
        self.check((0, 1, 0, 0, 7), (0, 0, 0, 9999935), (0, 9999872, 63))

    def test_a_fault_in_the_stretched_momentum(self):
        self.check((0, 1, 1000, 0, 0), (0, 10000, 0, 0), None)
        self.check((0, 1, 1000, 0, 0), (0, -10000, 0, 0), None)
        self.check((0, 1, 1000, 0, 0), (0, 9999, 0, 0), (0, 9765, 0))

    def test_a_fault_in_the_new_momentum(self):
        self.check((0, 1, 512, 0, 0), (0, 2, 0, MOST), None)
        self.check((0, 1, 512, 0, 0), (0, 2, 0, MOST - 1), (0, MOST, 0))
        self.check((0, 1, 512, 0, 0), (0, -3, 0, -MOST), None)
        self.check((0, 1, 512, 0, 0), (0, -2, 0, 1 - MOST), (0, -MOST, 0))

    def test_a_fault_in_the_stretched_new_momentum(self):
        self.check((1000, 20, 0, 0, 0), (0, 0, 0, 10000), None)
        self.check((1000, 20, 0, 0, 0), (0, 0, 0, -10000), None)
        self.check((1000, 20, 0, 0, 0), (0, 0, 0, 9999), (-10, 9999, 0))

    def test_a_fault_in_the_next_weight(self):
        self.check((2, 1, 0, 0, 0), (-MOST, 0, 0, 1), None)
        self.check((2, 1, 0, 0, 0), (MOST, 0, 0, -1), None)
        self.check((2, 1, 0, 0, 0), (MOST, 0, 0, 1), (MOST - 1, 1, 0))
        # Decay would bring the weight back into the bounds.
        self.check((2, 1, 0, 1, 0), (-MOST, 0, 0, 1), None)
        self.check((2, 1, 0, 1, 0), (-MOST, 0, 0, 0), (-MOST + 9766, 0, 0))

    def test_a_fault_in_the_stretched_weight(self):
        self.check((0, 1, 0, 1000, 0), (10000, 0, 0, 0), None)
        self.check((0, 1, 0, 1000, 0), (-10000, 0, 0, 0), None)
        self.check((0, 1, 0, 1000, 0), (9999, 0, 0, 0), (234, 0, 0))
        self.check((0, 1, 0, 2, 0), (5000000, 0, 0, 0), None)

    def test_one_entry_that_faults_is_enough(self):
        zeros = ((0, 0),)
        self.assertIsNone(advance((2, 1, 0, 0, 0), ((0, MOST),), zeros, zeros, ((0, -1),)))
        self.assertIsNotNone(advance((2, 1, 0, 0, 0), ((MOST, 0),), zeros, zeros, ((0, -1),)))

    def test_random_settings(self):
        chance = random.Random(21)
        faults = 0
        for _ in range(3000):
            settings = (
                chance.choice((0, 1, 3, 100, 1000)), chance.randint(1, 20), chance.choice((0, 1, 512, 1000)),
                chance.choice((0, 1, 100, 1000)), chance.randint(0, 9),
            )
            most = chance.choice((10, 5000, 12000, MOST))
            given = [chance.randint(-most, most) for _ in range(4)]
            try:
                expected = advance_entry(settings, *given)
            except Bounded:
                expected = None
            faults += expected is None
            self.check(settings, given, expected)
        self.assertGreater(faults, 300)
        self.assertLess(faults, 2000)

    def test_arguments_are_unchanged(self):
        arguments = [[3, 2, 512, 256, 2], [[10]], [[9]], [[2]], [[5]]]
        before = copy.deepcopy(arguments)
        found = advance(*arguments)
        self.assertEqual(arguments, before)
        self.assertEqual(found, (cell(-3), cell(13), cell(-1)))
        self.assertIs(type(found), tuple)


class Send(unittest.TestCase):
    def test_coarse_0_sends_the_gradients(self):
        given = (((1, -2),), ((3, MOST),))
        self.assertEqual(send(0, given), (given, ((0, 0),)))

    def test_by_hand(self):
        # 5 is sent as 4; 5 + 1 = 6 as 8 (a half goes up); 5 - 2 = 3 as 4; 5 - 1 = 4 as 4.
        self.assertEqual(
            send(2, (cell(5),) * 4), ((cell(4), cell(8), cell(4), cell(4)), cell(0))
        )
        # -5 is sent as -4; -5 - 1 = -6 as -4 (a half goes up); -5 - 2 = -7 as -8.
        self.assertEqual(send(2, (cell(-5),) * 3), ((cell(-4), cell(-4), cell(-8)), cell(1)))
        self.assertEqual(send(1, (cell(-1),)), ((cell(0),), cell(-1)))
        self.assertEqual(send(9, (cell(255), cell(1))), ((cell(0), cell(512)), cell(-256)))

    def test_one_gradient(self):
        self.assertEqual(send(3, (((3, 4), (-4, -5)),)), ((((0, 8), (0, -8)),), ((3, -4), (-4, 3))))

    def test_each_item_is_that_of_advance(self):
        chance = random.Random(22)
        for _ in range(200):
            coarse = chance.randint(0, 9)
            rows, columns = chance.randint(1, 3), chance.randint(1, 3)
            zeros = operate("fill", (rows, columns, 0), ())
            most = chance.choice((3, 600, 10000))
            given = tuple(
                tuple(tuple(chance.randint(-most, most) for _ in range(columns)) for _ in range(rows))
                for _ in range(chance.randint(1, 6))
            )
            residue, expected = zeros, []
            for gradient in given:
                _, sent, residue = advance((0, 1, 0, 0, coarse), zeros, zeros, residue, gradient)
                expected.append(sent)
            self.assertEqual(send(coarse, given), (tuple(expected), residue))

    def test_multiples_and_sums(self):
        chance = random.Random(23)
        for coarse in range(10):
            given = tuple(cell(chance.randint(-100000, 100000)) for _ in range(20))
            sent, kept = send(coarse, given)
            self.assertEqual(len(sent), 20)
            for matrix in sent:
                self.assertEqual(matrix[0][0] % 2**coarse, 0)
            whole = sum(matrix[0][0] for matrix in sent) + kept[0][0]
            self.assertEqual(whole, sum(matrix[0][0] for matrix in given))
            self.assertLessEqual(abs(kept[0][0]), 2**coarse // 2)

    def test_faults(self):
        # What is sent is rounded up over the bounds: by the first, a middle and the last gradient.
        for at in range(3):
            given = [cell(2)] * 3
            given[at] = cell(MOST)
            self.assertIsNone(send(1, tuple(given)))
            given[at] = cell(MOST - 1)
            self.assertIsNotNone(send(1, tuple(given)))
        # The sum with the residue: 1 is kept of the first one.
        self.assertEqual(send(9, (cell(MOST),)), ((cell(9999872),), cell(127)))
        self.assertIsNone(send(9, (cell(1), cell(MOST))))
        self.assertIsNone(send(9, (cell(-1), cell(-MOST))))
        self.assertEqual(send(9, (cell(-1), cell(MOST))), ((cell(0), cell(9999872)), cell(126)))

    def test_coarse_0_never_faults(self):
        self.assertEqual(send(0, (cell(MOST),) * 3), ((cell(MOST),) * 3, cell(0)))

    def test_arguments_are_unchanged(self):
        given = [cell(5), cell(6)]
        before = copy.deepcopy(given)
        found = send(2, given)
        self.assertEqual(given, before)
        self.assertEqual([type(part) for part in (found, *found)], [tuple, tuple, tuple])



class Written(unittest.TestCase):
    """The operations and their order, which the results alone do not tell."""

    def test_the_additions_of_a_sum(self):
        writer = SettingsWriter(10)
        self.assertEqual(writer.write_sum([3, 1, 4, 9, 5]), 13)
        self.assertEqual(
            writer.lines,
            [("add", (), (3, 1)), ("add", (), (10, 4)), ("add", (), (9, 5)), ("add", (), (11, 12))],
        )
        self.assertEqual(writer.write_sum([2]), 2)
        self.assertEqual(len(writer.lines), 4)

    def advance_lines(self, settings):
        # Weight, momentum, residue and gradient are the values 0 to 3.
        writer = SettingsWriter(4)
        outputs = writer.write_advance(settings, 0, 1, 2, 3)
        return outputs, writer.lines

    def test_all_operations_of_settings(self):
        self.assertEqual(
            self.advance_lines((7, 20, 512, 3, 9)),
            (
                (16, 10, 7),
                [
                    ("add", (), (3, 2)), ("scale", (9,), (4,)), ("stretch", (512,), (5,)), ("sub", (), (4, 6)),
                    ("stretch", (512,), (1,)), ("scale", (10,), (8,)), ("add", (), (9, 6)),
                    ("stretch", (7,), (10,)), ("scale", (20,), (11,)), ("sub", (), (0, 12)),
                    ("stretch", (3,), (0,)), ("scale", (10,), (14,)), ("sub", (), (13, 15)),
                ],
            ),
        )

    def test_settings_of_0_leave_their_operations_out(self):
        self.assertEqual(
            self.advance_lines((0, 1, 0, 0, 0)),
            ((6, 3, 2), [("stretch", (0,), (3,)), ("scale", (1,), (4,)), ("sub", (), (0, 5))]),
        )
        kinds = {
            (0, 1, 1, 0, 0): "stretch scale add stretch scale sub",
            (0, 1, 0, 1, 0): "stretch scale sub stretch scale sub",
            (0, 1, 0, 0, 1): "add scale stretch sub stretch scale sub",
        }
        for settings, expected in kinds.items():
            _, lines = self.advance_lines(settings)
            self.assertEqual(" ".join(kind for kind, _, _ in lines), expected)


class Files(unittest.TestCase):
    def test_defined_in_their_file(self):
        for function in (module.sum_tree, module.advance, module.send):
            self.assertEqual(function.__module__, "lasttext.settings")


if __name__ == "__main__":
    unittest.main()
