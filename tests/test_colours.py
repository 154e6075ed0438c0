import random
import unittest
from itertools import product
from math import gcd

import sample_tables as samples
from turningthings.tables import colours

SORTS_OF_BAD = (samples.too_large, samples.not_keeping, samples.merging, samples.not_turned)

MIRRORED = [0, 2, 1, 2, 1, 0, 1, 0, 2]
FIRST_SWAPS = [0, 2, 1, 0, 1, 2, 0, 1, 2]
OF_TWO = samples.affine(5, 2)
OF_THREE = samples.affine(5, 3)
FIELD = samples.field_affine(2, 0b111)


def tables():
    return [(n, t) for name, n, t in samples.up_to(8, samples.turning())]


def answer(n, a, t, passings):
    return colours(n, a, len(passings) // 4, t, passings)


def other_sides(passings):
    return samples.flat((*lines, 1 - side) for *lines, side in samples.fours(passings))


class NoPassings(unittest.TestCase):
    def test_no_lines(self):
        for n, t in tables():
            with self.subTest(t=t):
                self.assertEqual(colours(n, 0, 0, t, []), [0, 1])

    def test_lines_alone(self):
        for n, t in tables():
            for a in range(11):
                if n ** a <= 4000:
                    with self.subTest(t=t, a=a):
                        self.assertEqual(colours(n, a, 0, t, []), [0, n ** a])

    def test_the_most_that_is_asked(self):
        sizes = samples.sizes_of_colours()
        for n, most in ((1, 10), (2, 10), (3, 7), (4, 5), (5, 5), (6, 4), (7, 4), (8, 3)):
            self.assertEqual(max(a for k, a in sizes if k == n), most)
            self.assertEqual(colours(n, most, 0, samples.still(n), []), [0, n ** most])


class OnePassing(unittest.TestCase):
    def test_written_out(self):
        for side in (0, 1):
            # Any two colours tell the third.
            self.assertEqual(colours(3, 3, 1, MIRRORED, [0, 1, 2, side]), [0, 9])
            # What goes over keeps what is below: 00 11 22.
            self.assertEqual(colours(3, 2, 1, MIRRORED, [0, 1, 1, side]), [0, 3])
            # 00 10 11 12 20 21 22: 0 moves both others.
            self.assertEqual(colours(3, 2, 1, FIRST_SWAPS, [0, 1, 1, side]), [0, 7])
            self.assertEqual(colours(3, 2, 1, FIRST_SWAPS, [1, 0, 0, side]), [0, 7])

    def test_one_line_three_times(self):
        for n, t in tables():
            for side in (0, 1):
                self.assertEqual(colours(n, 1, 1, t, [0, 0, 0, side]), [0, n])
                self.assertEqual(colours(n, 3, 1, t, [1, 1, 1, side]), [0, n ** 3])

    def test_over_line_comes_in_or_goes_out(self):
        # x keeps x, so the third line has its colour.
        for n, t in tables():
            for four in ([0, 0, 1], [0, 1, 0], [1, 1, 0], [1, 0, 1]):
                for side in (0, 1):
                    self.assertEqual(colours(n, 2, 1, t, four + [side]), [0, n])

    def test_comes_in_and_goes_out(self):
        for n, t in tables():
            kept = sum(t[x * n + y] == y for x, y in product(range(n), repeat=2))
            for side in (0, 1):
                self.assertEqual(colours(n, 2, 1, t, [0, 1, 1, side]), [0, kept])
                self.assertEqual(colours(n, 3, 1, t, [2, 0, 0, side]), [0, kept * n])

    def test_every_passing_of_three_lines(self):
        for n, t in tables():
            for four in product(range(3), range(3), range(3), range(2)):
                self.assertEqual(colours(n, 3, 1, t, list(four)), samples.colours(n, 3, t, four))

    def test_lines_that_are_in_no_passing(self):
        for n, a in samples.sizes_of_colours():
            if a >= 3:
                for four in ([0, 1, 2], [a - 1, a - 2, a - 3], [1, 2, 0], [a - 2, a - 3, a - 1], [a - 1, 0, 1]):
                    with self.subTest(n=n, a=a, four=four):
                        self.assertEqual(colours(n, a, 1, samples.mirrored(n), four + [1]), [0, n ** (a - 1)])


class Sides(unittest.TestCase):
    def test_there_and_back(self):
        # What 0 turns 1 into is turned back on side 0, and turned further on side 1.
        self.assertEqual(answer(5, 3, OF_TWO, [0, 1, 2, 1, 0, 2, 1, 0]), [0, 25])
        self.assertEqual(answer(5, 3, OF_TWO, [0, 1, 2, 0, 0, 2, 1, 1]), [0, 25])
        self.assertEqual(answer(5, 3, OF_TWO, [0, 1, 2, 1, 0, 2, 1, 1]), [0, 5])
        self.assertEqual(answer(5, 3, OF_TWO, [0, 1, 2, 0, 0, 2, 1, 0]), [0, 5])
        self.assertEqual(answer(5, 3, OF_TWO, [0, 1, 2, 1, 0, 1, 2, 0]), [0, 5])
        self.assertEqual(answer(5, 3, OF_TWO, [0, 1, 2, 1, 0, 1, 2, 1]), [0, 25])

    def test_one_side_is_not_the_other(self):
        # 0 turns 1 into 2 and 2 into 3, and 3 turns 2 into 1: with a of 3 where the steps from 0 are 1, 3, 9.
        passings = [0, 1, 2, 1, 0, 2, 3, 1, 3, 2, 1, 1]
        self.assertEqual(answer(5, 4, OF_THREE, passings), [0, 25])
        self.assertEqual(answer(5, 4, OF_TWO, passings), [0, 5])
        self.assertEqual(answer(5, 4, OF_THREE, other_sides(passings)), [0, 5])
        self.assertEqual(answer(5, 4, OF_TWO, other_sides(passings)), [0, 25])

    def test_turned_back_by_the_other_side(self):
        chance = random.Random(7)
        for n, t in tables():
            a = max(a for k, a in samples.sizes_of_colours() if k == n and a <= 4)
            for c in (1, 3, 6):
                passings = samples.planted(n, a, c, t, chance)
                self.assertEqual(answer(n, a, t, passings),
                                 answer(n, a, samples.turned_back(n, t), other_sides(passings)))
                swapped = samples.flat((four[0], four[2], four[1], 1 - four[3]) for four in samples.fours(passings))
                self.assertEqual(answer(n, a, t, passings), answer(n, a, t, swapped))

    def test_samples_on_one_side_alone(self):
        chance = random.Random(11)
        for n, t in tables():
            for a, c in ((2, 2), (3, 2), (3, 3), (3, 5)):
                for side in (0, 1):
                    passings = samples.flat([chance.randrange(a), chance.randrange(a), chance.randrange(a), side]
                                            for k in range(c))
                    with self.subTest(t=t, a=a, passings=passings):
                        self.assertEqual(answer(n, a, t, passings), samples.colours(n, a, t, passings))


class Knots(unittest.TestCase):
    def test_three_lines_in_turn(self):
        for side in (0, 1):
            trefoil = samples.twisted(3, side)
            self.assertEqual(answer(3, 3, MIRRORED, trefoil), [0, 9])
            self.assertEqual(answer(2, 3, samples.still(2), trefoil), [0, 2])
            self.assertEqual(answer(5, 3, samples.mirrored(5), trefoil), [0, 5])
            self.assertEqual(answer(6, 3, samples.mirrored(6), trefoil), [0, 18])
            self.assertEqual(answer(4, 3, FIELD, trefoil), [0, 16])
            self.assertEqual(answer(7, 3, samples.affine(7, 3), trefoil), [0, 49])
            self.assertEqual(answer(7, 3, samples.affine(7, 2), trefoil), [0, 7])

    def test_three_lines_written_out(self):
        self.assertEqual(colours(3, 3, 3, MIRRORED, [0, 1, 2, 1, 1, 2, 0, 1, 2, 0, 1, 1]), [0, 9])
        self.assertEqual(colours(3, 3, 3, MIRRORED, [0, 1, 2, 0, 1, 2, 0, 0, 2, 0, 1, 0]), [0, 9])

    def test_figure_eight(self):
        for passings in (samples.FIGURE_EIGHT, other_sides(samples.FIGURE_EIGHT)):
            self.assertEqual(answer(3, 4, MIRRORED, passings), [0, 3])
            self.assertEqual(answer(5, 4, samples.mirrored(5), passings), [0, 25])
            self.assertEqual(answer(4, 4, FIELD, passings), [0, 16])
            self.assertEqual(answer(7, 4, samples.affine(7, 3), passings), [0, 7])

    def test_two_linked_rings(self):
        for n, t in tables():
            pairs = sum(t[x * n + y] == y and t[y * n + x] == x for x, y in product(range(n), repeat=2))
            for side in (0, 1):
                self.assertEqual(answer(n, 2, t, samples.twisted(2, side)), [0, pairs])

    def test_twisted_threads(self):
        # Mirrored, the colours go on by the same step, which k times makes nothing.
        for n, k in samples.sizes_of_colours():
            if k >= 1:
                for side in (0, 1):
                    with self.subTest(n=n, k=k, side=side):
                        self.assertEqual(answer(n, k, samples.mirrored(n), samples.twisted(k, side)),
                                         [0, n * gcd(n, k)])

    def test_twisted_threads_by_every_table(self):
        for n, t in tables():
            for k in range(1, 11):
                if n ** k <= 1500:
                    for side in (0, 1):
                        passings = samples.twisted(k, side)
                        self.assertEqual(answer(n, k, t, passings), samples.colours(n, k, t, passings))

    def test_a_loop_in_a_line_changes_nothing(self):
        # Line 0 of the three in turn passes below itself before it goes on as line 3.
        for side, loop in product((0, 1), repeat=2):
            plain = samples.twisted(3, side)
            looped = [0, 2, 1, side, 1, 3, 2, side, 2, 1, 0, side, 0, 0, 3, loop]
            for n, t in tables():
                if n <= 7:
                    self.assertEqual(answer(n, 4, t, looped), answer(n, 3, t, plain))


class AllPassings(unittest.TestCase):
    def test_every_two_passings_of_two_lines(self):
        fours = list(product(range(2), repeat=4))
        for n, t in tables():
            for one, other in product(fours, repeat=2):
                self.assertEqual(colours(n, 2, 2, t, [*one, *other]), samples.colours(n, 2, t, one + other))

    def test_samples(self):
        chance = random.Random(3)
        met, more = set(), set()
        for n, t in tables():
            for a in range(1, 11):
                for c in (1, 2, 4, 8, 32):
                    if n ** a <= 4000:
                        passings = samples.planted(n, a, c, t, chance)
                        found = answer(n, a, t, passings)
                        with self.subTest(t=t, a=a, passings=passings):
                            self.assertEqual(found, samples.colours(n, a, t, passings))
                        met.add((n, a))
                        if found[1] > n:
                            more.add((n, a))
        self.assertEqual(met, {(n, a) for n, a in samples.sizes_of_colours() if a > 0})
        self.assertEqual(more, {(n, a) for n, a in met if n > 1 and a > 1})

    def test_all_of_one_colour_is_a_way(self):
        chance = random.Random(5)
        for n, t in tables():
            passings = samples.flat([chance.randrange(2), chance.randrange(2), chance.randrange(2), chance.randrange(2)]
                                    for k in range(32))
            self.assertGreaterEqual(answer(n, 2, t, passings)[1], n)

    def test_each_of_32_passings_counts(self):
        for n, a, t in ((1, 10, [0]), (2, 10, samples.still(2)), (3, 7, MIRRORED), (5, 5, OF_TWO),
                        (8, 3, samples.still(8))):
            idle = [0, 0, 0, 1]
            self.assertEqual(colours(n, a, 32, t, idle * 32), [0, n ** a])
            for k in range(32):
                # The first and the last line have the same colour.
                passings = idle * k + [0, 0, a - 1, 1] + idle * (31 - k)
                self.assertEqual(colours(n, a, 32, t, passings), [0, n ** (a - 1)])

    def test_the_same_passing_many_times(self):
        for c in range(1, 33):
            self.assertEqual(colours(3, 3, c, MIRRORED, [0, 1, 2, 1] * c), [0, 9])

    def test_lines_of_one_thing(self):
        for a in range(1, 11):
            self.assertEqual(colours(1, a, 32, [0], [a - 1, 0, a // 2, a % 2] * 32), [0, 1])

    def test_eight_things(self):
        for name, n, t in samples.turning():
            if n == 8:
                for a in (1, 2, 3):
                    passings = samples.twisted(a, 1) + samples.twisted(a, 0)
                    with self.subTest(name, a=a):
                        self.assertEqual(answer(8, a, t, passings), samples.colours(8, a, t, passings))


class Refused(unittest.TestCase):
    def test_n_out_of_range(self):
        for n in (0, 9, 10, 16, 17, 255, 256, 65536, 2147483647, 2147483648, 4294967288, 4294967295):
            for a, c in product((0, 1, 10, 11, 4294967295), (0, 1, 32, 33, 4294967295)):
                with self.subTest(n=n, a=a, c=c):
                    self.assertEqual(colours(n, a, c, [], []), [-2])

    def test_a_out_of_range(self):
        for a in (11, 12, 32, 255, 256, 65536, 2147483647, 2147483648, 2147483649, 4294967286, 4294967295):
            for n, c in product((1, 2, 8, 9), (0, 1, 32, 33, 4294967295)):
                with self.subTest(n=n, a=a, c=c):
                    self.assertEqual(colours(n, a, c, [], []), [-2])

    def test_c_out_of_range(self):
        for c in (33, 34, 64, 128, 255, 256, 65536, 2147483647, 2147483648, 2147483649, 4294967264, 4294967295):
            for n, a in product((1, 2, 8, 9), (0, 1, 10, 11, 4294967295)):
                with self.subTest(n=n, a=a, c=c):
                    self.assertEqual(colours(n, a, c, [], []), [-2])

    def test_things_that_do_not_turn_one_another(self):
        for makes in SORTS_OF_BAD:
            found = samples.up_to(8, makes())
            self.assertLessEqual({3, 7, 8}, {n for n, t in found})
            for n, t in found:
                with self.subTest(makes.__name__, n=n, t=t):
                    self.assertEqual(colours(n, 0, 0, t, []), [-3])
                    self.assertEqual(colours(n, 3, 0, t, []), [-3])
                    self.assertEqual(colours(n, 3, 3, t, samples.twisted(3, 1)), [-3])
                    self.assertEqual(colours(n, 10, 32, t, [9, 0, 5, 0] * 32), [-3])
                    # Both are amiss: the things, and a line or a side.
                    self.assertEqual(colours(n, 0, 1, t, [0, 0, 0, 0]), [-3])
                    self.assertEqual(colours(n, 3, 1, t, [0, 1, 2, 2]), [-3])

    def test_all_numbers_255(self):
        for n in range(1, 9):
            self.assertEqual(colours(n, 1, 0, [255] * (n * n), []), [-3])

    def test_a_line_that_is_not_there(self):
        for n, a in samples.sizes_of_colours():
            for place, z in product(range(3), {a, a + 1, 10, 11, 128, 255}):
                if z >= a and a > 0:
                    bad = [a - 1, 0, a - 1, 1]
                    bad[place] = z
                    self.check_bad(n, a, samples.mirrored(n), bad)

    def test_no_lines_for_a_passing(self):
        for n in range(1, 9):
            for four in ([0, 0, 0, 0], [0, 0, 0, 1], [1, 0, 0, 1], [0, 0, 0, 2], [255, 255, 255, 255]):
                for c in (1, 2, 32):
                    self.assertEqual(colours(n, 0, c, samples.still(n), four * c), [-3])

    def test_a_side_that_is_not_there(self):
        for n, a in samples.sizes_of_colours():
            for side in (2, 3, 128, 254, 255):
                if a > 0:
                    self.check_bad(n, a, samples.mirrored(n), [0, a // 2, a - 1, side])

    def check_bad(self, n, a, t, bad):
        good = [a - 1, 0, 0, 1]
        with self.subTest(n=n, a=a, bad=bad):
            self.assertEqual(colours(n, a, 1, t, bad), [-3])
            self.assertEqual(colours(n, a, 2, t, bad + good), [-3])
            self.assertEqual(colours(n, a, 2, t, good + bad), [-3])
            self.assertEqual(colours(n, a, 32, t, bad + good * 31), [-3])
            self.assertEqual(colours(n, a, 32, t, good * 31 + bad), [-3])
            self.assertEqual(colours(n, a, 32, t, good * 15 + bad + good * 16), [-3])

    def test_every_line_and_side(self):
        for a in range(1, 11):
            for z in range(256):
                self.assertEqual(colours(1, a, 1, [0], [z, 0, 0, 0]), [0, 1] if z < a else [-3])
                self.assertEqual(colours(1, a, 1, [0], [0, z, 0, 1]), [0, 1] if z < a else [-3])
                self.assertEqual(colours(1, a, 1, [0], [0, 0, z, 0]), [0, 1] if z < a else [-3])
                self.assertEqual(colours(1, a, 1, [0], [0, 0, 0, z]), [0, 1] if z < 2 else [-3])

    def test_a_line_that_is_only_a_thing(self):
        # 5 is one of the things and none of the lines; a line may well be none of the things.
        self.assertEqual(colours(8, 3, 1, samples.still(8), [5, 0, 0, 1]), [-3])
        self.assertEqual(colours(2, 8, 1, samples.still(2), [5, 0, 7, 1]), [0, 128])

    def test_every_table_of_two(self):
        for t in product(range(3), repeat=4):
            found = colours(2, 2, 1, list(t), [0, 1, 1, 1])
            self.assertEqual(found, [0, 4] if t == (0, 1, 0, 1) else [-3])

    def test_one_number_changed(self):
        for n, t in ((3, MIRRORED), (7, samples.affine(7, 3)), (8, samples.field_affine(3, 0b1011))):
            for k, z in product(range(n * n), range(n + 1)):
                if z != t[k]:
                    self.assertEqual(colours(n, 2, 1, t[:k] + [z] + t[k + 1:], [0, 1, 1, 0]), [-3])


if __name__ == "__main__":
    unittest.main()
