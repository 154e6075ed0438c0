import unittest
from math import gcd

import sample_tables as samples
from turningthings.tables import affine, check, latin

ALL = [(m, a) for m in range(1, 17) for a in range(m + 1)]


def stepped(m, a):
    """The table by steps: each step from x to y is turned into a steps."""
    def turn(x, y):
        z = x
        while x != y:
            x = (x + 1) % m
            for step in range(a):
                z = (z + 1) % m
        return z

    return samples.table(m, turn)


class Affine(unittest.TestCase):
    def test_one_thing(self):
        self.assertEqual(affine(1, 0), [0, 0])
        self.assertEqual(affine(1, 1), [0, 0])

    def test_written_out(self):
        self.assertEqual(affine(2, 1), [0, 0, 1, 0, 1])
        self.assertEqual(affine(3, 1), [0, 0, 1, 2, 0, 1, 2, 0, 1, 2])
        self.assertEqual(affine(3, 2), [0, 0, 2, 1, 2, 1, 0, 1, 0, 2])
        self.assertEqual(affine(5, 2), [0,
                                        0, 2, 4, 1, 3,
                                        4, 1, 3, 0, 2,
                                        3, 0, 2, 4, 1,
                                        2, 4, 1, 3, 0,
                                        1, 3, 0, 2, 4])

    def test_every_m_and_a(self):
        for m, a in ALL:
            with self.subTest(m=m, a=a):
                self.assertEqual(affine(m, a), [0] + stepped(m, a) if gcd(m, a) == 1 else [-5])

    def test_how_many_tables(self):
        # As many as there are a from 1 to m with no divisor together with m; of 1 also a of 0.
        known = [2, 1, 2, 2, 4, 2, 6, 4, 6, 4, 10, 4, 12, 6, 8, 8]
        for m, many in enumerate(known, start=1):
            tables = [affine(m, a) for a in range(m + 1) if affine(m, a) != [-5]]
            self.assertEqual(len(tables), many)
            self.assertEqual({len(answer) for answer in tables}, {1 + m * m})

    def test_all_numbers_are_things(self):
        for m, a in ALL:
            if gcd(m, a) == 1:
                self.assertEqual(set(affine(m, a)), set(range(m)))

    def test_things_turn_one_another(self):
        for m, a in ALL:
            if gcd(m, a) == 1:
                table = affine(m, a)[1:]
                with self.subTest(m=m, a=a):
                    self.assertTrue(samples.turn_one_another(m, table))
                    self.assertEqual(check(m, table), [1])

    def test_a_of_one_moves_nothing(self):
        for m in range(1, 17):
            self.assertEqual(affine(m, 1), [0] + samples.still(m))

    def test_one_less_than_m_mirrors(self):
        for m in range(1, 17):
            self.assertEqual(affine(m, m - 1), [0] + samples.mirrored(m))

    def test_latin_where_one_less_than_a_has_no_divisor_with_m_either(self):
        for m, a in ALL:
            if gcd(m, a) == 1:
                self.assertEqual(latin(m, affine(m, a)[1:]), [1 if gcd(m, a - 1) == 1 else 0])


class Refused(unittest.TestCase):
    def test_a_divisor_together(self):
        for m, a in ((2, 0), (2, 2), (3, 0), (3, 3), (4, 2), (6, 2), (6, 3), (6, 4), (9, 3), (9, 6), (13, 0), (13, 13),
                     (15, 3), (15, 5), (15, 10), (16, 0), (16, 2), (16, 14), (16, 16)):
            with self.subTest(m=m, a=a):
                self.assertEqual(affine(m, a), [-5])

    def test_m_out_of_range(self):
        for m in (0, 17, 18, 32, 255, 256, 65536, 2147483647, 2147483648, 4294967280, 4294967294, 4294967295):
            for a in (0, 1, 2, 3, 16, 17, 2147483647, 2147483648, 4294967280, 4294967295):
                with self.subTest(m=m, a=a):
                    self.assertEqual(affine(m, a), [-2])

    def test_a_out_of_range(self):
        # Were these in range, some had a divisor together with m and some had none.
        for m in range(1, 17):
            for a in [*range(m + 1, 3 * m + 2), 2147483646, 2147483647, 2147483648, 2147483649,
                      *range(4294967296 - 2 * m, 4294967296)]:
                with self.subTest(m=m, a=a):
                    self.assertEqual(affine(m, a), [-2])


if __name__ == "__main__":
    unittest.main()
