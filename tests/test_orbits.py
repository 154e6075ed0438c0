import unittest

import sample_tables as samples
from turningthings.tables import orbits


class Orbits(unittest.TestCase):
    def test_one_least_thing(self):
        for n in range(1, 17, 2):
            with self.subTest(n=n):
                self.assertEqual(orbits(n, samples.mirrored(n)), [1] + [0] * n)

    def test_two_least_things(self):
        for n in range(2, 17, 2):
            with self.subTest(n=n):
                self.assertEqual(orbits(n, samples.mirrored(n)), [2] + [0, 1] * (n // 2))

    def test_n_least_things(self):
        for n in range(1, 17):
            with self.subTest(n=n):
                self.assertEqual(orbits(n, samples.still(n)), [n] + list(range(n)))

    def test_several_least_things(self):
        self.assertEqual(orbits(3, [0, 2, 1, 0, 1, 2, 0, 1, 2]), [2, 0, 1, 1])
        self.assertEqual(orbits(3, [0, 1, 2, 0, 1, 2, 1, 0, 2]), [2, 0, 0, 2])
        self.assertEqual(orbits(3, [0, 1, 2, 2, 1, 0, 0, 1, 2]), [2, 0, 1, 0])
        self.assertEqual(orbits(9, samples.affine(9, 4)), [3] + [0, 1, 2] * 3)
        self.assertEqual(orbits(16, samples.affine(16, 5)), [4] + [0, 1, 2, 3] * 4)
        self.assertEqual(orbits(16, samples.affine(16, 9)), [8] + list(range(8)) * 2)

    def test_kinds_of_a_group(self):
        self.assertEqual(samples.THREE, [(0, 1, 2), (0, 2, 1), (1, 0, 2), (1, 2, 0), (2, 0, 1), (2, 1, 0)])
        self.assertEqual(orbits(6, samples.conjugation(samples.THREE)), [3, 0, 1, 1, 3, 3, 1])
        for members, known in ((samples.FOUR_EVEN, 4), (samples.RING_OF_EIGHT, 7), (samples.QUATERNIONS, 5)):
            self.assertEqual(orbits(len(members), samples.conjugation(members))[0], known)

    def test_turns_one_after_another(self):
        self.assertEqual(orbits(6, samples.conjugation(samples.SWAPS_OF_FOUR)), [1] + [0] * 6)
        last_moves = samples.still_but(16, {15: [(y + 1) % 15 for y in range(15)] + [15]})
        self.assertEqual(orbits(16, last_moves), [2] + [0] * 15 + [15])
        last_moves_back = samples.still_but(16, {15: [(y - 1) % 15 for y in range(15)] + [15]})
        self.assertEqual(orbits(16, last_moves_back), [2] + [0] * 15 + [15])
        first_moves = samples.still_but(16, {0: [0] + [y % 15 + 1 for y in range(1, 16)]})
        self.assertEqual(orbits(16, first_moves), [2, 0] + [1] * 15)

    def test_turns_by_different_things(self):
        t = samples.still_but(6, {4: [1, 0, 3, 2, 4, 5], 5: [2, 3, 0, 1, 4, 5]})
        self.assertEqual(orbits(6, t), [3, 0, 0, 0, 0, 4, 5])

    def test_against_sinking_labels(self):
        for name, n, t in samples.turning():
            with self.subTest(name):
                self.assertEqual(orbits(n, t), samples.orbits(n, t))
            for names in samples.shuffles(n):
                u = samples.relabelled(n, t, names)
                with self.subTest(name, names=names):
                    self.assertEqual(orbits(n, u), samples.orbits(n, u))

    def test_every_table_of_four(self):
        for t in samples.tables_of_keeping_rows(4):
            asked = samples.orbits(4, t) if samples.turn_one_another(4, t) else [-3]
            self.assertEqual(orbits(4, t), asked)


class Refused(unittest.TestCase):
    def test_n_out_of_range(self):
        for n in (0, 17, 18, 32, 255, 256, 65536, 2147483647, 2147483648, 4294967280, 4294967295):
            with self.subTest(n=n):
                self.assertEqual(orbits(n, []), [-2])

    def test_things_that_do_not_turn_one_another(self):
        for n, t in samples.not_turning():
            with self.subTest(n=n, t=t):
                self.assertEqual(orbits(n, t), [-3])

    def test_one_thing(self):
        for z in range(256):
            with self.subTest(z=z):
                self.assertEqual(orbits(1, [z]), [1, 0] if z == 0 else [-3])


if __name__ == "__main__":
    unittest.main()
