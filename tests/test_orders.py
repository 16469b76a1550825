"""Sections 17 to 19: ranks, the order of documents, and the turns of sources; section 44 on both."""

import copy
import itertools
import random
import unittest

from lasttext import orders
from lasttext.orders import order, rank, shares

NAMES = ("a", "b", "c0", "doc", "z9", "abcdefghijkl", "m", "k3")
ROUNDS = (0, 1, 2, 47, 1000, 10**9)
SEEDS = (0, 1, 7, 999999, 1000000)
CODES = {letter: 97 + at for at, letter in enumerate("abcdefghijklmnopqrstuvwxyz")}
CODES.update({digit: 48 + at for at, digit in enumerate("0123456789")})


class Rank(unittest.TestCase):
    def test_worked_out_by_hand(self):
        # h: 12345; 12345 * 131 + 97 + 7 = 1617299 -> 617296.
        # 617296 * 617296 + 3 * 617296 + 1 = 381056203505 -> 381055 * 1000003 leaves 60340.
        self.assertEqual(rank(0, 0, "a"), 381056203505 - 381055 * 1000003)
        self.assertEqual(rank(0, 0, "a"), 60340)

    def test_seed_and_round_by_hand(self):
        # h: 7919 + 104729 + 12345 = 124993; 124993 * 131 + 97 + 7 = 16374187 -> 374139.
        # 374139 * 374139 + 3 * 374139 + 1 = 139981113739 -> 139980 * 1000003 leaves 693799.
        self.assertEqual(374139 * 374139 + 3 * 374139 + 1, 139980 * 1000003 + 693799)
        self.assertEqual(rank(1, 1, "a"), 693799)

    def test_two_characters_by_hand(self):
        # h: 12345; 12345 * 131 + 98 + 7 = 1617300 -> 617297; 617297 * 131 + 48 + 7 = 80865962 -> 865722.
        self.assertEqual(rank(0, 0, "b0"), (865722 * 865722 + 3 * 865722 + 1) - 749474 * 1000003)

    def test_the_ends_of_seeds_rounds_and_names(self):
        for seed, round_number, name in itertools.product(SEEDS, ROUNDS, NAMES):
            # All at once here, with no remainder on the way.
            h = seed * 7919 + round_number * 104729 + 12345
            for character in name:
                h = h * 131 + CODES[character] + 7
            expected = (h * h + 3 * h + 1) % 1000003
            self.assertEqual(rank(seed, round_number, name), expected, (seed, round_number, name))

    def test_known_ranks(self):
        # Worked out apart from the program, with `bc`.
        self.assertEqual(rank(1000000, 0, "a"), 148964)
        self.assertEqual(rank(0, 1000000, "z"), 93752)
        self.assertEqual(rank(1000000, 123456789, "abcdefghijkl"), 937662)
        self.assertEqual(rank(0, 0, "z99999999999"), 368626)

    def test_each_argument_counts(self):
        self.assertEqual(len({rank(5, 6, "ab"), rank(6, 6, "ab"), rank(5, 7, "ab"), rank(5, 6, "ba")}), 4)


class Order(unittest.TestCase):
    def test_ascending_ranks(self):
        for seed, round_number in itertools.product(SEEDS, ROUNDS):
            found = order(seed, round_number, NAMES)
            self.assertEqual(sorted(found), sorted(NAMES))
            ranks = [rank(seed, round_number, name) for name in found]
            self.assertEqual(ranks, sorted(ranks))

    def test_names_in_any_order(self):
        names = NAMES[:5]
        expected = order(3, 4, names)
        for mixed in itertools.permutations(names):
            self.assertEqual(order(3, 4, mixed), expected)

    def test_one_name_and_no_name(self):
        self.assertEqual(order(7, 0, ("a",)), ("a",))
        self.assertEqual(order(7, 0, ()), ())

    def test_the_order_changes_with_the_round_and_the_seed(self):
        by_round = {order(1, round_number, NAMES) for round_number in range(20)}
        by_seed = {order(seed, 1, NAMES) for seed in range(20)}
        self.assertGreater(len(by_round), 15)
        self.assertGreater(len(by_seed), 15)

    def test_names_of_the_same_rank(self):
        chance = random.Random(18)
        names = ["".join(chance.choices("abcdefgh", k=6)) for _ in range(4000)]
        pairs = 0
        for seed in range(5):
            by_rank = {}
            for name in set(names):
                by_rank.setdefault(rank(seed, 0, name), []).append(name)
            for same in by_rank.values():
                if len(same) > 1:
                    pairs += 1
                    self.assertEqual(order(seed, 0, tuple(same)), tuple(sorted(same)))
                    self.assertEqual(order(seed, 0, tuple(sorted(same, reverse=True))), tuple(sorted(same)))
        self.assertGreater(pairs, 20)

    def test_another_name_does_not_change_the_order_of_the_others(self):
        chance = random.Random(17)
        for _ in range(100):
            names = chance.sample(NAMES, chance.randint(1, len(NAMES)))
            seed, round_number = chance.randint(0, 1000000), chance.randint(0, 100)
            found = order(seed, round_number, tuple(names))
            for left_out in names:
                others = tuple(name for name in names if name != left_out)
                expected = tuple(name for name in found if name != left_out)
                self.assertEqual(order(seed, round_number, others), expected)

    def test_the_argument_is_unchanged_and_a_tuple_comes_back(self):
        names = list(NAMES)
        found = order(1, 2, names)
        self.assertEqual(names, list(NAMES))
        self.assertIs(type(found), tuple)


def shares_by_definition(weights, count):
    standing = {source: 0 for source in range(len(weights))}
    found = ()
    for _ in range(count):
        for source in standing:
            standing[source] += weights[source]
        greatest = max(standing.values())
        giver = min(source for source in standing if standing[source] == greatest)
        standing[giver] -= sum(weights)
        found += (giver,)
    return found


class Shares(unittest.TestCase):
    def test_by_hand(self):
        # Credits before each gift: 3 1, 2 2, 1 3, 4 0, and from the beginning.
        self.assertEqual(shares((3, 1), 8), (0, 0, 1, 0, 0, 0, 1, 0))
        self.assertEqual(shares((1, 3), 4), (1, 0, 1, 1))
        self.assertEqual(shares((5, 1, 1), 7), (0, 0, 1, 0, 2, 0, 0))

    def test_one_source(self):
        for weight in (1, 2, 100):
            self.assertEqual(shares((weight,), 5), (0, 0, 0, 0, 0))

    def test_four_sources(self):
        self.assertEqual(shares((4, 3, 2, 1), 10), (0, 1, 2, 0, 1, 3, 0, 2, 1, 0))

    def test_equal_weights_begin_with_the_first(self):
        for weight in (1, 50, 100):
            self.assertEqual(shares((weight, weight), 5), (0, 1, 0, 1, 0))
            self.assertEqual(shares((weight,) * 4, 9), (0, 1, 2, 3, 0, 1, 2, 3, 0))
        self.assertEqual(shares((0, 2, 2), 4), (1, 2, 1, 2))

    def test_weights_of_0_never_give(self):
        self.assertEqual(shares((0, 0, 1, 0), 6), (2,) * 6)
        self.assertEqual(shares((0, 1, 0, 1), 6), (1, 3, 1, 3, 1, 3))
        self.assertEqual(shares((0, 100), 3), (1, 1, 1))
        self.assertEqual(shares((100, 0), 3), (0, 0, 0))

    def test_counts(self):
        for weights in ((3, 1), (0, 7, 5), (1, 2, 3, 4), (100, 100, 100, 100)):
            self.assertEqual(shares(weights, 0), ())
            self.assertEqual(shares(weights, 1), (weights.index(max(weights)),))
            whole = sum(weights)
            once = shares(weights, whole)
            # Behind as many turns as the sum, every credit is 0 again.
            self.assertEqual([once.count(source) for source in range(len(weights))], list(weights))
            self.assertEqual(shares(weights, whole + 3), once + once[:3])
            self.assertEqual(len(shares(weights, 400)), 400)
            for count in (1, 2, 5, whole):
                self.assertEqual(shares(weights, 400)[:count], shares(weights, count))

    def test_random_weights_by_the_definition(self):
        chance = random.Random(19)
        for _ in range(150):
            weights = random_weights(chance)
            count = chance.choice((0, 1, 5, 30, 400))
            self.assertEqual(shares(weights, count), shares_by_definition(weights, count))

    def test_every_source_gives_about_its_share(self):
        chance = random.Random(44)
        for _ in range(150):
            weights = random_weights(chance)
            found = shares(weights, 400)
            for count in range(401):
                for source, weight in enumerate(weights):
                    times = found[:count].count(source)
                    off = abs(times * sum(weights) - count * weight)
                    self.assertLess(off, len(weights) * sum(weights), (weights, count, source))

    def test_the_argument_is_unchanged_and_a_tuple_comes_back(self):
        weights = [3, 0, 1]
        before = copy.deepcopy(weights)
        found = shares(weights, 9)
        self.assertEqual(weights, before)
        self.assertIs(type(found), tuple)
        self.assertEqual(shares(weights, 9), found)

    def test_defined_in_their_file(self):
        for function in (orders.rank, orders.order, orders.shares):
            self.assertEqual(function.__module__, "lasttext.orders")


def random_weights(chance):
    weights = [chance.choice((0, 1, 2, 3, 50, 99, 100)) for _ in range(chance.randint(1, 4))]
    if sum(weights) == 0:
        weights[chance.randrange(len(weights))] = chance.randint(1, 100)
    return tuple(weights)


if __name__ == "__main__":
    unittest.main()
