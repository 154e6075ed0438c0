import unittest
from itertools import product
from math import gcd

import sample_tables as samples
from turningthings.tables import latin


class Latin(unittest.TestCase):
    def test_one_thing(self):
        self.assertEqual(latin(1, [0]), [1])

    def test_written_out(self):
        self.assertEqual(latin(2, [0, 1, 0, 1]), [0])
        self.assertEqual(latin(3, [0, 2, 1, 0, 1, 2, 0, 1, 2]), [0])
        self.assertEqual(latin(3, [0, 2, 1, 2, 1, 0, 1, 0, 2]), [1])
        self.assertEqual(latin(4, [0, 2, 3, 1, 3, 1, 0, 2, 1, 3, 2, 0, 2, 0, 1, 3]), [1])
        self.assertEqual(latin(4, [0, 3, 2, 1, 2, 1, 0, 3, 0, 3, 2, 1, 2, 1, 0, 3]), [0])

    def test_nothing_is_moved(self):
        for n in range(2, 17):
            with self.subTest(n=n):
                self.assertEqual(latin(n, samples.still(n)), [0])

    def test_points_mirrored_in_points(self):
        for n in range(1, 17):
            with self.subTest(n=n):
                self.assertEqual(latin(n, samples.mirrored(n)), [n % 2])

    def test_affine(self):
        for m in range(1, 17):
            for a in range(m + 1):
                if gcd(a, m) == 1:
                    with self.subTest(m=m, a=a):
                        self.assertEqual(latin(m, samples.affine(m, a)), [1 if gcd(1 - a, m) == 1 else 0])

    def test_fields_and_pairs(self):
        four = samples.field_affine(2, 0b111)
        self.assertEqual(latin(4, four), [1])
        self.assertEqual(latin(8, samples.field_affine(3, 0b1011)), [1])
        self.assertEqual(latin(16, samples.field_affine(4, 0b10011)), [1])
        self.assertEqual(latin(16, samples.pairs(4, four, 4, four)), [1])
        self.assertEqual(latin(12, samples.pairs(3, samples.mirrored(3), 4, four)), [1])
        self.assertEqual(latin(16, samples.pairs(4, four, 4, samples.mirrored(4))), [0])
        self.assertEqual(latin(16, samples.pairs(4, samples.still(4), 4, four)), [0])

    def test_of_a_group(self):
        for members in (samples.THREE, samples.FOUR_EVEN, samples.RING_OF_EIGHT, samples.QUATERNIONS):
            self.assertEqual(latin(len(members), samples.conjugation(members)), [0])
        swaps_of_three = samples.made_of((1, 0, 2), samples.THREE)
        self.assertEqual(latin(3, samples.conjugation(swaps_of_three)), [1])
        self.assertEqual(latin(4, samples.conjugation(swaps_of_three + [(0, 1, 2)])), [0])
        self.assertEqual(latin(4, samples.conjugation(samples.made_of((1, 2, 0, 3), samples.FOUR_EVEN))), [1])

    def test_each_comes_to_all_and_some_meet(self):
        for members, n in ((samples.SWAPS_OF_FOUR, 6), (samples.ROUNDS_OF_FOUR, 6), (samples.SWAPS_OF_FIVE, 10),
                           (samples.HALF_THE_ROUNDS_OF_FIVE, 12), (samples.DOUBLE_SWAPS_OF_FIVE, 15)):
            t = samples.conjugation(members)
            with self.subTest(n=n, members=members):
                self.assertEqual(len(members), n)
                self.assertEqual(samples.orbits(n, t)[0], 1)
                self.assertEqual(latin(n, t), [0])

    def test_samples(self):
        for name, n, t in samples.turning():
            for names in [list(range(n)), *samples.shuffles(n)]:
                u = samples.relabelled(n, t, names)
                with self.subTest(name, names=names):
                    self.assertEqual(latin(n, u), samples.latin(n, u))

    def test_every_table(self):
        for n, known in ((1, 1), (2, 0), (3, 1), (4, 2), (5, 18), (6, 0)):
            found = [list(t) for t in samples.every_turning(n)]
            self.assertEqual(sum(latin(n, t) == [1] for t in found), known)
            for t in found:
                self.assertEqual(latin(n, t), samples.latin(n, t))


class Refused(unittest.TestCase):
    def test_n_out_of_range(self):
        for n in (0, 17, 18, 32, 255, 256, 65536, 2147483647, 2147483648, 4294967280, 4294967295):
            with self.subTest(n=n):
                self.assertEqual(latin(n, []), [-2])

    def test_things_that_do_not_turn_one_another(self):
        for makes in (samples.too_large, samples.not_keeping, samples.merging, samples.not_turned):
            for n, t in makes():
                with self.subTest(makes.__name__, n=n, t=t):
                    self.assertEqual(latin(n, t), [-3])

    def test_different_things_do_not_make_up_for_it(self):
        for n in range(2, 17):
            with self.subTest(n=n):
                self.assertEqual(latin(n, samples.table(n, lambda x, y: x)), [-3])
                self.assertEqual(latin(n, samples.table(n, lambda x, y: (x + y) % n)), [-3])

    def test_all_numbers_255(self):
        for n in range(1, 17):
            self.assertEqual(latin(n, [255] * (n * n)), [-3])

    def test_one_thing(self):
        for z in range(1, 256):
            with self.subTest(z=z):
                self.assertEqual(latin(1, [z]), [-3])

    def test_one_number_changed(self):
        for n, t in ((3, samples.mirrored(3)), (16, samples.field_affine(4, 0b10011))):
            for k, z in product(range(n * n), range(n)):
                if z != t[k]:
                    self.assertEqual(latin(n, t[:k] + [z] + t[k + 1:]), [-3])


if __name__ == "__main__":
    unittest.main()
