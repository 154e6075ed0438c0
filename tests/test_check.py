import unittest
from itertools import permutations, product

import sample_tables as samples
from turningthings.tables import check


class Turning(unittest.TestCase):
    def test_samples(self):
        for name, n, t in samples.turning():
            with self.subTest(name):
                self.assertEqual(check(n, t), [1])

    def test_samples_by_other_names(self):
        for name, n, t in samples.turning():
            for names in samples.shuffles(n):
                with self.subTest(name, names=names):
                    self.assertEqual(check(n, samples.relabelled(n, t, names)), [1])

    def test_written_out(self):
        self.assertEqual(check(1, [0]), [1])
        self.assertEqual(check(2, [0, 1, 0, 1]), [1])
        self.assertEqual(check(3, [0, 2, 1, 2, 1, 0, 1, 0, 2]), [1])
        self.assertEqual(check(4, [0, 2, 3, 1, 3, 1, 0, 2, 1, 3, 2, 0, 2, 0, 1, 3]), [1])


class NotTurning(unittest.TestCase):
    def test_a_number_not_below_n(self):
        for n, t in samples.too_large():
            with self.subTest(n=n, t=t):
                self.assertEqual(check(n, t), [0])

    def test_one_thing(self):
        for z in range(256):
            with self.subTest(z=z):
                self.assertEqual(check(1, [z]), [1 if z == 0 else 0])

    def test_all_numbers_255(self):
        for n in range(1, 17):
            self.assertEqual(check(n, [255] * (n * n)), [0])

    def test_a_thing_that_turns_itself_into_another(self):
        for n, t in samples.not_keeping():
            with self.subTest(n=n, t=t):
                self.assertTrue(samples.merges_none(n, t) and samples.turns_turned(n, t))
                self.assertEqual(check(n, t), [0])

    def test_two_things_turned_into_the_same(self):
        for n, t in samples.merging():
            with self.subTest(n=n, t=t):
                self.assertTrue(samples.keeps_itself(n, t) and samples.turns_turned(n, t))
                self.assertEqual(check(n, t), [0])

    def test_turns_that_are_not_turned(self):
        for n, t in samples.not_turned():
            with self.subTest(n=n, t=t):
                self.assertTrue(samples.keeps_itself(n, t) and samples.merges_none(n, t))
                self.assertEqual(check(n, t), [0])

    def test_broken_by_other_names(self):
        for n, t in list(samples.not_keeping()) + list(samples.merging()) + list(samples.not_turned()):
            for names in samples.shuffles(n):
                self.assertEqual(check(n, samples.relabelled(n, t, names)), [0])

    def test_one_number_changed(self):
        for n, t in ((3, samples.mirrored(3)), (16, samples.conjugation(samples.RING_OF_EIGHT))):
            for k, z in product(range(n * n), range(n)):
                self.assertEqual(check(n, t[:k] + [z] + t[k + 1:]), [1 if z == t[k] else 0])


class EveryTable(unittest.TestCase):
    def test_of_two(self):
        found = [t for t in product(range(4), repeat=4) if check(2, list(t)) == [1]]
        self.assertEqual(found, [(0, 1, 0, 1)])

    def test_of_three(self):
        found = [list(t) for t in product(range(4), repeat=9) if check(3, list(t)) == [1]]
        self.assertEqual(found, [
            [0, 1, 2, 0, 1, 2, 0, 1, 2],
            [0, 1, 2, 0, 1, 2, 1, 0, 2],
            [0, 1, 2, 2, 1, 0, 0, 1, 2],
            [0, 2, 1, 0, 1, 2, 0, 1, 2],
            [0, 2, 1, 2, 1, 0, 1, 0, 2],
        ])

    def test_of_four(self):
        tables = samples.tables_of_keeping_rows(4)
        self.assertEqual(len(tables), 1296)
        for t in tables:
            self.assertEqual(check(4, t), [1 if samples.turn_one_another(4, t) else 0])

    def test_how_many_but_for_names(self):
        for n, known in ((1, 1), (2, 1), (3, 3), (4, 7)):
            found = [t for t in samples.tables_of_keeping_rows(n) if check(n, t) == [1]]
            kinds = {min(tuple(samples.relabelled(n, t, p)) for p in permutations(range(n))) for t in found}
            self.assertEqual(len(kinds), known)


class Refused(unittest.TestCase):
    def test_n_out_of_range(self):
        for n in (0, 17, 18, 32, 255, 256, 65536, 2147483647, 2147483648, 4294967280, 4294967295):
            with self.subTest(n=n):
                self.assertEqual(check(n, []), [-2])


if __name__ == "__main__":
    unittest.main()
