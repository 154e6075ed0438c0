import unittest
from itertools import product

import sample_tables as samples
from turningthings.tables import images

SORTS_OF_BAD = (samples.too_large, samples.not_keeping, samples.merging, samples.not_turned)


class Images(unittest.TestCase):
    def test_one_thing(self):
        self.assertEqual(images(1, 1, [0], [0]), [0, 1])

    def test_written_out(self):
        first_swaps = [0, 2, 1, 0, 1, 2, 0, 1, 2]
        mirrored = [0, 2, 1, 2, 1, 0, 1, 0, 2]
        self.assertEqual(images(2, 2, [0, 1, 0, 1], [0, 1, 0, 1]), [0, 4])
        # All three to one, or each to another.
        self.assertEqual(images(3, 3, mirrored, mirrored), [0, 9])
        self.assertEqual(images(2, 3, [0, 1, 0, 1], mirrored), [0, 3])
        self.assertEqual(images(3, 2, mirrored, [0, 1, 0, 1]), [0, 2])
        # 000 012 021 111 122 211 222: 1 or 2 go to 0 with all others alone, for 0 moves the rest.
        self.assertEqual(images(3, 3, first_swaps, first_swaps), [0, 7])
        self.assertEqual(images(2, 3, [0, 1, 0, 1], first_swaps), [0, 5])
        self.assertEqual(images(3, 2, first_swaps, [0, 1, 0, 1]), [0, 4])

    def test_nothing_is_moved(self):
        for n, m in samples.sizes_of_images():
            with self.subTest(n=n, m=m):
                self.assertEqual(images(n, m, samples.still(n), samples.still(m)), [0, m ** n])

    def test_the_most_that_is_asked(self):
        sizes = samples.sizes_of_images()
        for n, most in ((1, 8), (2, 8), (3, 8), (4, 7), (5, 5), (6, 3), (7, 3), (8, 2)):
            self.assertEqual(max(m for k, m in sizes if k == n), most)

    def test_one_thing_goes_anywhere(self):
        for name, m, u in samples.up_to(8, samples.turning()):
            with self.subTest(name):
                self.assertEqual(images(1, m, [0], u), [0, m])

    def test_all_go_to_the_one_thing(self):
        for name, n, t in samples.up_to(8, samples.turning()):
            with self.subTest(name):
                self.assertEqual(images(n, 1, t, [0]), [0, 1])

    def test_into_things_that_move_nothing(self):
        # What comes to one another goes to the same.
        for name, n, t in samples.up_to(8, samples.turning()):
            for m in range(1, 9):
                if m ** n <= 4000:
                    with self.subTest(name, m=m):
                        self.assertEqual(images(n, m, t, samples.still(m)), [0, m ** samples.orbits(n, t)[0]])

    def test_two_that_move_nothing(self):
        # As many as there are pairs of which neither moves the other.
        for name, m, u in samples.up_to(8, samples.turning()):
            pairs = [(x, y) for x, y in product(range(m), repeat=2) if u[x * m + y] == y and u[y * m + x] == x]
            with self.subTest(name):
                self.assertEqual(images(2, m, samples.still(2), u), [0, len(pairs)])

    def test_points_mirrored_in_points(self):
        # Where 0 and 1 go tells where all go.
        for n, m, known in ((3, 3, 9), (3, 5, 5), (3, 6, 18), (5, 3, 3), (5, 5, 25), (4, 4, 16), (3, 7, 7), (7, 3, 3),
                            (4, 2, 4), (2, 4, 8), (8, 2, 4), (6, 3, 9), (3, 8, 8)):
            with self.subTest(n=n, m=m):
                self.assertEqual(images(n, m, samples.mirrored(n), samples.mirrored(m)), [0, known])

    def test_rows_that_are_not_one_to_one(self):
        # Six in a ring fall on three in a ring, two on each; none of the rows has six different images.
        self.assertEqual(images(6, 3, samples.mirrored(6), samples.mirrored(3)), [0, 9])
        swaps = samples.conjugation(samples.SWAPS_OF_FOUR)
        self.assertEqual(images(6, 3, swaps, samples.mirrored(3)), [0, 9])
        self.assertEqual(images(4, 3, samples.still(4), samples.mirrored(3)), [0, 3])

    def test_only_all_to_one(self):
        for n, m, t, u in ((5, 5, samples.affine(5, 2), samples.affine(5, 3)),
                           (4, 5, samples.field_affine(2, 0b111), samples.affine(5, 2)),
                           (5, 4, samples.affine(5, 2), samples.field_affine(2, 0b111)),
                           (7, 3, samples.affine(7, 3), samples.mirrored(3)),
                           (4, 7, samples.field_affine(2, 0b111), samples.affine(7, 3))):
            with self.subTest(t=t, u=u):
                self.assertEqual(images(n, m, t, u), [0, m])

    def test_from_t_to_u_and_not_back(self):
        for n, m, t, u in ((2, 3, samples.still(2), samples.mirrored(3)),
                           (4, 4, samples.still(4), samples.mirrored(4)),
                           (3, 5, samples.mirrored(3), samples.still(5))):
            with self.subTest(t=t, u=u):
                self.assertEqual(images(n, m, t, u), samples.images(n, m, t, u))
                self.assertEqual(images(m, n, u, t), samples.images(m, n, u, t))
                self.assertNotEqual(images(n, m, t, u), images(m, n, u, t))

    def test_the_very_same_list(self):
        for name, n, t in samples.up_to(5, samples.turning()):
            with self.subTest(name):
                self.assertEqual(images(n, n, t, t), samples.images(n, n, t, t))

    def test_samples(self):
        tables = [(n, u) for name, n, t in samples.up_to(8, samples.turning())
                  for u in (t, samples.relabelled(n, t, list(samples.shuffles(n))[1]))]
        met = set()
        for (n, t), (m, u) in product(tables, repeat=2):
            if m ** n <= 4000:
                met.add((n, m))
                with self.subTest(t=t, u=u):
                    self.assertEqual(images(n, m, t, u), samples.images(n, m, t, u))
        self.assertEqual(met, set(samples.sizes_of_images()))

    def test_every_sort(self):
        for n, m in samples.sizes_of_images():
            if n <= 6 and m <= 6 and m ** n < 2000:
                for (t, named), (u, others) in product(samples.classes(n), samples.classes(m)):
                    self.assertEqual(images(n, m, list(t), list(u)), samples.images(n, m, t, u))

    def test_every_two_tables_of_up_to_four(self):
        for n, m in product(range(1, 5), repeat=2):
            for t, u in product(samples.every_turning(n), samples.every_turning(m)):
                self.assertEqual(images(n, m, list(t), list(u)), samples.images(n, m, t, u))


class Refused(unittest.TestCase):
    def test_n_or_m_out_of_range(self):
        off = (0, 9, 10, 16, 17, 255, 256, 65536, 2147483647, 2147483648, 4294967288, 4294967295)
        for z, k in product(off, [*range(1, 9), *off]):
            with self.subTest(z=z, k=k):
                self.assertEqual(images(z, k, [], []), [-2])
                self.assertEqual(images(k, z, [], []), [-2])

    def test_things_that_do_not_turn_one_another(self):
        for makes in SORTS_OF_BAD:
            tables = samples.up_to(8, makes())
            self.assertLessEqual({3, 7, 8}, {n for n, t in tables})
            for n, t in tables:
                for m in (1, 3, 8):
                    with self.subTest(makes.__name__, n=n, t=t, m=m):
                        self.assertEqual(images(n, m, t, samples.mirrored(m)), [-3])
                        self.assertEqual(images(m, n, samples.mirrored(m), t), [-3])
                self.assertEqual(images(n, n, t, t), [-3])

    def test_both_do_not_turn_one_another(self):
        tables = [samples.up_to(8, makes())[-1] for makes in SORTS_OF_BAD]
        for (n, t), (m, u) in product(tables, repeat=2):
            self.assertEqual(images(n, m, t, u), [-3])

    def test_a_number_that_only_the_other_has(self):
        for n, m in product(range(1, 9), repeat=2):
            for z in range(n, m):
                # z is one of the other's things, and none of these.
                t = samples.still(n)[:-1] + [z]
                self.assertEqual(images(n, m, t, samples.still(m)), [-3])
                self.assertEqual(images(m, n, samples.still(m), t), [-3])

    def test_all_numbers_255(self):
        for n, m in product(range(1, 9), repeat=2):
            self.assertEqual(images(n, m, [255] * (n * n), samples.still(m)), [-3])
            self.assertEqual(images(n, m, samples.still(n), [255] * (m * m)), [-3])
            self.assertEqual(images(n, m, [255] * (n * n), [255] * (m * m)), [-3])

    def test_one_thing(self):
        for z in range(1, 256):
            with self.subTest(z=z):
                self.assertEqual(images(1, 1, [z], [0]), [-3])
                self.assertEqual(images(1, 1, [0], [z]), [-3])
                self.assertEqual(images(1, 3, [z], samples.mirrored(3)), [-3])
                self.assertEqual(images(3, 1, samples.mirrored(3), [z]), [-3])

    def test_every_two_tables_of_two(self):
        tables = [list(t) for t in product(range(3), repeat=4)]
        for t, u in product(tables, repeat=2):
            self.assertEqual(images(2, 2, t, u), [0, 4] if t == u == [0, 1, 0, 1] else [-3])

    def test_every_two_tables_of_three(self):
        for t, u in product(samples.tables_of_keeping_rows(3), repeat=2):
            turning = samples.turn_one_another(3, t) and samples.turn_one_another(3, u)
            self.assertEqual(images(3, 3, t, u), samples.images(3, 3, t, u) if turning else [-3])

    def test_one_number_changed(self):
        for n, t in ((3, samples.mirrored(3)), (6, samples.conjugation(samples.SWAPS_OF_FOUR)),
                     (7, samples.affine(7, 3)), (8, samples.field_affine(3, 0b1011))):
            for k, z in product(range(n * n), range(n + 1)):
                if z != t[k]:
                    changed = t[:k] + [z] + t[k + 1:]
                    self.assertEqual(images(n, n, changed, t), [-3])
                    self.assertEqual(images(n, n, t, changed), [-3])


if __name__ == "__main__":
    unittest.main()
