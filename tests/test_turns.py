import unittest
from itertools import product

import sample_tables as samples
from turningthings.tables import turns

# Where it isn't refused, turns is called with no more things than these.
MOST_ASKED = 6


class Turns(unittest.TestCase):
    def test_nothing_is_moved(self):
        for n in range(1, MOST_ASKED + 1):
            with self.subTest(n=n):
                self.assertEqual(turns(n, samples.still(n)), [1])

    def test_written_out(self):
        self.assertEqual(turns(1, [0]), [1])
        self.assertEqual(turns(2, [0, 1, 0, 1]), [1])
        self.assertEqual(turns(3, [0, 2, 1, 0, 1, 2, 0, 1, 2]), [2])
        self.assertEqual(turns(3, [0, 2, 1, 2, 1, 0, 1, 0, 2]), [6])
        self.assertEqual(turns(4, [0, 2, 3, 1, 3, 1, 0, 2, 1, 3, 2, 0, 2, 0, 1, 3]), [12])

    def test_points_mirrored_in_points(self):
        for n, known in ((1, 1), (2, 1), (3, 6), (4, 4), (5, 10), (6, 6)):
            with self.subTest(n=n):
                self.assertEqual(turns(n, samples.mirrored(n)), [known])

    def test_affine(self):
        for m, a, known in ((4, 3, 4), (5, 1, 1), (5, 2, 20), (5, 3, 20), (5, 4, 10), (6, 5, 6)):
            with self.subTest(m=m, a=a):
                self.assertEqual(turns(m, samples.affine(m, a)), [known])

    def test_of_a_group(self):
        square = samples.group((1, 2, 3, 0), (0, 3, 2, 1))
        moving = [p for p in square if p not in ((0, 1, 2, 3), (2, 3, 0, 1))]
        swaps_of_three = samples.made_of((1, 0, 2), samples.THREE)
        for name, members, known in (
                ("ring of five, nothing moved", samples.group((1, 2, 3, 4, 0)), 1),
                ("ring of six, nothing moved", samples.group((1, 2, 3, 4, 5, 0)), 1),
                ("group of 6", samples.THREE, 6),
                ("swaps of three", swaps_of_three, 6),
                ("swaps of three and what moves nothing", swaps_of_three + [(0, 1, 2)], 6),
                ("swaps of three and the rounds", swaps_of_three + [(1, 2, 0), (2, 0, 1)], 6),
                ("rounds of three of four", samples.made_of((1, 2, 0, 3), samples.FOUR_EVEN), 12),
                ("the square's that move some other", moving, 4)):
            with self.subTest(name):
                self.assertLessEqual(len(members), MOST_ASKED)
                self.assertEqual(turns(len(members), samples.conjugation(members)), [known])

    def test_many_more_ways_than_things(self):
        self.assertEqual(samples.SWAPS_OF_FOUR, [
            (0, 1, 3, 2), (0, 2, 1, 3), (0, 3, 2, 1), (1, 0, 2, 3), (2, 1, 0, 3), (3, 1, 2, 0)])
        self.assertEqual(turns(6, samples.conjugation(samples.SWAPS_OF_FOUR)), [24])
        self.assertEqual(turns(6, samples.conjugation(samples.ROUNDS_OF_FOUR)), [24])
        self.assertEqual(turns(6, samples.apart(3, samples.mirrored(3), 3, samples.mirrored(3))), [36])
        self.assertEqual(turns(6, samples.apart(5, samples.affine(5, 2), 1, [0])), [20])

    def test_one_turn_as_often_as_it_may_be(self):
        for n in range(2, MOST_ASKED + 1):
            round_by_last = [(y + 1) % (n - 1) for y in range(n - 1)] + [n - 1]
            round_by_first = [0] + [y % (n - 1) + 1 for y in range(1, n)]
            with self.subTest(n=n):
                self.assertEqual(turns(n, samples.still_but(n, {n - 1: round_by_last})), [n - 1])
                self.assertEqual(turns(n, samples.still_but(n, {0: round_by_first})), [n - 1])
        self.assertEqual(turns(6, samples.still_but(6, {5: [1, 0, 3, 4, 2, 5]})), [6])

    def test_turns_by_different_things(self):
        swap_each = samples.still_but(6, {4: [1, 0, 2, 3, 4, 5], 5: [0, 1, 3, 2, 4, 5]})
        self.assertEqual(turns(6, swap_each), [4])
        swap_both = samples.still_but(6, {4: [1, 0, 3, 2, 4, 5], 5: [2, 3, 0, 1, 4, 5]})
        self.assertEqual(turns(6, swap_both), [4])
        swap_in_rings = samples.still_but(6, {4: [1, 2, 3, 0, 4, 5], 5: [2, 3, 0, 1, 4, 5]})
        self.assertEqual(turns(6, swap_in_rings), [4])

    def test_the_same_way_by_two_things_is_one(self):
        swap = [1, 0, 2, 3, 4, 5]
        self.assertEqual(turns(6, samples.still_but(6, {k: swap for k in (2, 3, 4, 5)})), [2])

    def test_samples(self):
        for name, n, t in samples.up_to(MOST_ASKED, samples.turning()):
            for names in [list(range(n)), *samples.shuffles(n)]:
                u = samples.relabelled(n, t, names)
                with self.subTest(name, names=names):
                    self.assertEqual(turns(n, u), samples.turns(n, u))

    def test_every_table(self):
        for n, known in ((1, 1), (2, 1), (3, 5), (4, 36), (5, 404), (6, 6658)):
            found = samples.every_turning(n)
            self.assertEqual(len(found), known)
            for t in found:
                self.assertEqual(turns(n, list(t)), samples.turns(n, t))


class Refused(unittest.TestCase):
    def test_n_out_of_range(self):
        for n in (0, 11, 12, 13, 14, 15, 16, 17, 255, 256, 65536, 2147483647, 2147483648, 4294967286, 4294967295):
            with self.subTest(n=n):
                self.assertEqual(turns(n, []), [-2])

    def test_things_that_do_not_turn_one_another(self):
        for makes in (samples.too_large, samples.not_keeping, samples.merging, samples.not_turned):
            tables = samples.up_to(10, makes())
            self.assertLessEqual({7, 8, 9, 10}, {n for n, t in tables})
            for n, t in tables:
                with self.subTest(makes.__name__, n=n, t=t):
                    self.assertEqual(turns(n, t), [-3])

    def test_all_numbers_255(self):
        for n in range(1, 11):
            self.assertEqual(turns(n, [255] * (n * n)), [-3])

    def test_one_thing(self):
        for z in range(256):
            with self.subTest(z=z):
                self.assertEqual(turns(1, [z]), [1] if z == 0 else [-3])

    def test_one_number_changed(self):
        for n, t in ((3, samples.mirrored(3)), (6, samples.conjugation(samples.SWAPS_OF_FOUR)),
                     (10, samples.conjugation(samples.SWAPS_OF_FIVE))):
            for k, z in product(range(n * n), range(n)):
                if z != t[k]:
                    self.assertEqual(turns(n, t[:k] + [z] + t[k + 1:]), [-3])

    def test_every_table_of_four(self):
        for t in samples.tables_of_keeping_rows(4):
            asked = samples.turns(4, t) if samples.turn_one_another(4, t) else [-3]
            self.assertEqual(turns(4, t), asked)


if __name__ == "__main__":
    unittest.main()
