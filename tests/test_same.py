import random
import unittest
from itertools import product

import sample_tables as samples
from turningthings.tables import same

# Where it isn't refused, same is called with no more things than these.
MOST_ASKED = 6


class Same(unittest.TestCase):
    def test_one_thing(self):
        self.assertEqual(same(1, [0], [0]), [0, 0])

    def test_written_out(self):
        first_swaps = [0, 2, 1, 0, 1, 2, 0, 1, 2]
        middle_swaps = [0, 1, 2, 2, 1, 0, 0, 1, 2]
        last_swaps = [0, 1, 2, 0, 1, 2, 1, 0, 2]
        self.assertEqual(same(2, [0, 1, 0, 1], [0, 1, 0, 1]), [0, 0, 1])
        self.assertEqual(same(3, first_swaps, first_swaps), [0, 0, 1, 2])
        self.assertEqual(same(3, first_swaps, middle_swaps), [0, 1, 0, 2])
        self.assertEqual(same(3, first_swaps, last_swaps), [0, 2, 0, 1])
        self.assertEqual(same(3, middle_swaps, last_swaps), [0, 0, 2, 1])
        self.assertEqual(same(3, last_swaps, first_swaps), [0, 1, 2, 0])
        self.assertEqual(same(3, [0, 2, 1, 2, 1, 0, 1, 0, 2], first_swaps), [-5])

    def test_from_t_to_u_and_not_back(self):
        t = samples.still_but(4, {3: [1, 2, 0, 3]})
        u = samples.still_but(4, {0: [0, 3, 1, 2]})
        self.assertEqual(same(4, t, u), [0, 1, 3, 2, 0])
        self.assertEqual(same(4, u, t), [0, 3, 0, 2, 1])

    def test_the_same_table(self):
        for n in range(1, MOST_ASKED + 1):
            for t, named in samples.classes(n):
                for u in list(named)[:8]:
                    with self.subTest(n=n, u=u):
                        self.assertEqual(same(n, list(u), list(u)), [0, *range(n)])

    def test_the_very_same_list(self):
        for name, n, t in samples.up_to(MOST_ASKED, samples.turning()):
            with self.subTest(name):
                self.assertEqual(same(n, t, t), [0, *range(n)])

    def test_other_names(self):
        for n, sorts in ((1, 1), (2, 1), (3, 3), (4, 7), (5, 22), (6, 73)):
            self.assertEqual(len(samples.classes(n)), sorts)
            for t, named in samples.classes(n):
                # One in three of six things, to save time: the first, the last and others between.
                for u, first in list(named.items())[::-1 if n < MOST_ASKED else -3] + list(named.items())[:1]:
                    self.assertEqual(same(n, list(t), list(u)), [0] + first)

    def test_other_names_of_every_table_of_four(self):
        for t, u in product(samples.every_turning(4), repeat=2):
            self.assertEqual(same(4, list(t), list(u)), samples.same(4, t, u))

    def test_other_names_of_samples(self):
        for name, n, t in samples.up_to(MOST_ASKED, samples.turning()):
            for names, others in product([list(range(n)), *samples.shuffles(n)], repeat=2):
                u, v = samples.relabelled(n, t, names), samples.relabelled(n, t, others)
                with self.subTest(name, names=names, others=others):
                    self.assertEqual(same(n, u, v), samples.same(n, u, v))

    def test_the_first_of_many_rows(self):
        # Two of still things may change places, so the lesser image comes first.
        t = samples.still_but(6, {0: [0, 2, 1, 3, 4, 5]})
        u = samples.still_but(6, {5: [0, 1, 3, 2, 4, 5]})
        self.assertEqual(same(6, t, u), [0, 5, 2, 3, 0, 1, 4])
        self.assertEqual(same(6, u, t), [0, 3, 4, 1, 2, 5, 0])
        for n in range(1, MOST_ASKED + 1):
            self.assertEqual(same(n, samples.still(n), samples.still(n)), [0, *range(n)])

    def test_a_first_image_that_leads_nowhere(self):
        # 0 may be taken to 0 for all that the two have to say of it; what comes later rules it out.
        t = samples.still_but(6, {5: [1, 0, 3, 4, 2, 5]})
        u = samples.still_but(6, {5: [1, 2, 0, 4, 3, 5]})
        self.assertEqual(same(6, t, u), [0, 3, 4, 0, 1, 2, 5])

    def test_sorts_that_differ(self):
        for n in range(1, MOST_ASKED + 1):
            sorts = samples.classes(n)
            for k, j in product(range(len(sorts)), repeat=2):
                if k != j:
                    t, u = sorts[k][0], list(sorts[j][1])[-1]
                    self.assertEqual(same(n, list(t), list(u)), [-5])

    def test_much_alike_and_yet_not_the_same(self):
        swaps, rounds = samples.conjugation(samples.SWAPS_OF_FOUR), samples.conjugation(samples.ROUNDS_OF_FOUR)
        for n, t, u in ((5, samples.affine(5, 2), samples.affine(5, 3)),
                        (6, swaps, rounds),
                        (4, samples.still_but(4, {3: [1, 2, 0, 3]}), samples.still_but(4, {3: [1, 0, 2, 3]})),
                        (3, samples.still(3), samples.mirrored(3))):
            with self.subTest(t=t, u=u):
                self.assertEqual(same(n, t, u), [-5])
                self.assertEqual(same(n, u, t), [-5])


class ManyThings(unittest.TestCase):
    """-5 is a refusal, so it is asked for up to 16 things, where all rows are too many to be tried."""

    def check_not_the_same(self, n, t, u):
        for names in samples.shuffles(n):
            self.assertEqual(same(n, t, samples.relabelled(n, u, names)), [-5])
            self.assertEqual(same(n, u, samples.relabelled(n, t, names)), [-5])

    def test_samples(self):
        tables = [(n, t, samples.outline(n, t)) for name, n, t in samples.turning() if n > MOST_ASKED]
        met = set()
        for (n, t, outline), (m, u, other) in product(tables, repeat=2):
            if n == m and outline != other:
                met.add(n)
                names = list(samples.shuffles(n))[0]
                with self.subTest(t=t, u=u):
                    self.assertEqual(same(n, t, samples.relabelled(n, u, names)), [-5])
        self.assertEqual(met, set(range(7, 17)))

    def test_all_but_still(self):
        for n in range(7, 17):
            still = samples.still(n)
            self.check_not_the_same(n, still, samples.still_but(n, {n - 1: [1, 0, *range(2, n)]}))
            self.check_not_the_same(n, still, samples.still_but(n, {0: [*range(n - 2), n - 1, n - 2]}))
            self.check_not_the_same(n, still, samples.still_but(n, {0: [0, *range(2, n), 1]}))

    def test_other_steps_of_a_prime(self):
        # Where all things come to one another, a of affine is told by the table.
        for m in (7, 11, 13):
            for a, b in product(range(2, m), repeat=2):
                if b == a + 1 or a != b and a * b % m == 1:
                    self.assertEqual(same(m, samples.affine(m, a), samples.affine(m, b)), [-5])

    def test_other_steps_among_still_things(self):
        for n in range(7, 17):
            self.check_not_the_same(n, samples.apart(n - 5, samples.still(n - 5), 5, samples.affine(5, 2)),
                                    samples.apart(5, samples.affine(5, 3), n - 5, samples.still(n - 5)))

    def test_other_rounds_of_one_row(self):
        for n in (8, 12, 16):
            self.check_not_the_same(n, samples.still_but(n, {n - 1: [1, 2, 3, 4, 0, *range(5, n)]}),
                                    samples.still_but(n, {n - 1: [1, 0, 3, 4, 2, *range(5, n)]}))

    def test_one_ring_of_pairs_or_two(self):
        # Each of five things swaps two of five pairs, each pair is swapped by two.
        one = samples.swapping(15, [{0, 1}, {1, 2}, {2, 3}, {3, 4}, {4, 0}])
        two = samples.swapping(15, [{0, 1}, {1, 0}, {2, 3}, {3, 4}, {4, 2}])
        self.assertEqual(samples.outline(15, one), samples.outline(15, two))
        self.check_not_the_same(15, one, two)

    def test_taken_round_by_other_steps(self):
        # A row of images may change places of rings and of what takes them round, and multiply the steps of a ring.
        for size, steps, others in (
                (7, [[1, 2, 4]], [[1, 2, 3]]),
                (7, [[1, 2, 4, 1, 2, 4]], [[1, 2, 4, 1, 2, 2]]),
                (11, [[1, 3, 4, 5, 9]], [[1, 3, 4, 5, 2]]),
                (5, [[1, 2, 3, 4], [1, 2, 3, 4]], [[1, 2, 3, 4], [1, 3, 2, 4]]),
                (5, [[1, 2, 3, 4, 0, 0], [1, 2, 3, 4, 0, 0]], [[1, 2, 3, 4, 0, 0], [1, 4, 2, 3, 0, 0]]),
                (4, [[1, 1, 3, 3], [1, 3, 1, 3], [1, 3, 3, 1]], [[1, 1, 3, 3], [1, 1, 3, 3], [1, 3, 3, 1]]),
                (3, [[1, 1, 2, 2], [1, 2, 1, 2], [1, 2, 2, 1], [1, 1, 1, 1]],
                 [[1, 1, 2, 2], [1, 2, 1, 2], [1, 2, 1, 2], [1, 1, 1, 1]])):
            with self.subTest(size=size, steps=steps):
                n = size * len(steps) + len(steps[0])
                self.check_not_the_same(n, samples.taken_round(size, steps), samples.taken_round(size, others))

    def test_taken_round_by_the_same_steps(self):
        for size, steps, others in (
                (7, [[1, 2, 4]], [[6, 3, 5]]),
                (11, [[1, 3, 4, 5, 9]], [[10, 2, 6, 7, 8]]),
                (5, [[1, 2, 3, 4], [1, 2, 3, 4]], [[1, 2, 3, 4], [2, 4, 1, 3]]),
                (7, [[1, 2, 3, 4, 5, 6, 0, 0, 0]], [[0, 3, 1, 0, 4, 6, 0, 2, 5]]),
                (3, [[1, 1, 2, 2], [1, 2, 1, 2], [1, 2, 2, 1], [1, 1, 1, 1]],
                 [[2, 2, 2, 2], [2, 1, 1, 2], [1, 1, 2, 2], [1, 2, 1, 2]])):
            with self.subTest(size=size, steps=steps):
                n = size * len(steps) + len(steps[0])
                self.check_the_same(n, samples.taken_round(size, steps), samples.taken_round(size, others))

    def check_the_same(self, n, t, u):
        for names in samples.shuffles(n):
            for v, w in ((t, samples.relabelled(n, u, names)), (samples.relabelled(n, t, names), u)):
                answer = same(n, v, w)
                self.assertEqual(answer[0], 0)
                self.assertEqual(samples.relabelled(n, v, answer[1:]), w)

    def test_pairs_joined_in_other_ways(self):
        ring = [(x, (x + 1) % 8) for x in range(8)]
        two_rings = [(x, x - x % 4 + (x + 1) % 4) for x in range(8)]
        cube = [(x, x ^ bit) for x in range(8) for bit in (1, 2, 4)]
        ladder = ring + [(x, (x + 4) % 8) for x in range(8)]
        for one, other in ((ring, two_rings), (cube, ladder)):
            self.check_not_the_same(16, samples.joined(one), samples.joined(other))
            self.check_the_same(16, samples.joined(one), samples.joined([(7 - x, 7 - y) for x, y in one]))

    def test_other_steps_of_one_among_many(self):
        two, three, still = (5, samples.affine(5, 2)), (5, samples.affine(5, 3)), (1, [0])
        for n, tables, others in ((15, (two, two, two), (two, three, two)),
                                  (16, (two, two, three, still), (three, still, two, three)),
                                  (14, ((7, samples.affine(7, 3)), (7, samples.affine(7, 5))),
                                   ((7, samples.affine(7, 3)), (7, samples.affine(7, 3))))):
            self.check_not_the_same(n, samples.all_apart(*tables), samples.all_apart(*others))
            self.check_the_same(n, samples.all_apart(*tables), samples.all_apart(*tables[::-1]))

    def test_seven_things_that_are_the_same(self):
        for name, n, t in samples.turning():
            if n == 7:
                for names in samples.shuffles(n):
                    u = samples.relabelled(n, t, names)
                    with self.subTest(name, names=names):
                        self.assertEqual(same(n, t, u), samples.same(n, t, u))

    def test_many_things_that_are_the_same(self):
        for name, n, t in samples.turning():
            if n > MOST_ASKED:
                u = samples.relabelled(n, t, list(samples.shuffles(n))[2])
                with self.subTest(name):
                    self.assertEqual(samples.relabelled(n, t, same(n, t, u)[1:]), u)
                    self.assertEqual(same(n, t, t), [0, *range(n)])

    def test_the_first_of_many_rows(self):
        for name, n, t in samples.turning():
            if 7 < n < 10:
                for names in samples.shuffles(n):
                    u = samples.relabelled(n, t, names)
                    with self.subTest(name, names=names):
                        self.assertEqual(same(n, t, u), [0] + samples.first_found(n, t, u))

    def test_the_first_row_by_many_names(self):
        chance = random.Random(5)
        for size, steps in ((8, [[1, 5]]), (4, [[1, 3], [1, 1]]), (5, [[1, 2, 3, 4]])):
            n = size * len(steps) + len(steps[0])
            tables = [samples.taken_round(size, steps)]
            for k in range(30):
                tables.append(samples.relabelled(n, tables[0], chance.sample(range(n), n)))
            for t, u in zip(tables, tables[1:]):
                with self.subTest(t=t, u=u):
                    self.assertEqual(same(n, t, u), [0] + samples.first_found(n, t, u))


class Refused(unittest.TestCase):
    def test_n_out_of_range(self):
        for n in (0, 17, 18, 255, 256, 65536, 2147483647, 2147483648, 4294967280, 4294967295):
            with self.subTest(n=n):
                self.assertEqual(same(n, [], []), [-2])

    def test_things_that_do_not_turn_one_another(self):
        for makes in (samples.too_large, samples.not_keeping, samples.merging, samples.not_turned):
            sizes = {n for n, t in makes()}
            self.assertLessEqual({6, 7, 16} - ({6} if makes is samples.too_large else set()), sizes)
            for n, t in makes():
                good = samples.still(n)
                with self.subTest(makes.__name__, n=n, t=t):
                    self.assertEqual(same(n, t, good), [-3])
                    self.assertEqual(same(n, good, t), [-3])
                    self.assertEqual(same(n, t, t), [-3])

    def test_n_of_1_to_16(self):
        for n in range(1, 17):
            for bad in self.bad_of(n):
                for good in (samples.still(n), samples.mirrored(n)):
                    with self.subTest(n=n, bad=bad, good=good):
                        self.assertEqual(same(n, bad, good), [-3])
                        self.assertEqual(same(n, good, bad), [-3])

    def bad_of(self, n):
        """Tables of n things that break one alone of what is asked, the last number too large first."""
        yield samples.still(n)[:-1] + [n]
        if n > 1:
            yield samples.table(n, lambda x, y: (y + 1) % n)
            yield samples.table(n, lambda x, y: x)
        if n > 4:
            yield samples.still_but(n, {0: [0, 2, 1, *range(3, n)], n - 1: [1, 0, *range(2, n)]})

    def test_all_numbers_255(self):
        for n in range(1, 17):
            self.assertEqual(same(n, [255] * (n * n), samples.still(n)), [-3])
            self.assertEqual(same(n, samples.still(n), [255] * (n * n)), [-3])
            self.assertEqual(same(n, [255] * (n * n), [255] * (n * n)), [-3])

    def test_one_thing(self):
        for z in range(1, 256):
            with self.subTest(z=z):
                self.assertEqual(same(1, [z], [0]), [-3])
                self.assertEqual(same(1, [0], [z]), [-3])
                self.assertEqual(same(1, [z], [z]), [-3])

    def test_every_two_tables_of_two(self):
        tables = [list(t) for t in product(range(3), repeat=4)]
        for t, u in product(tables, repeat=2):
            self.assertEqual(same(2, t, u), [0, 0, 1] if t == u == [0, 1, 0, 1] else [-3])

    def test_every_two_tables_of_three(self):
        for t, u in product(samples.tables_of_keeping_rows(3), repeat=2):
            turning = samples.turn_one_another(3, t) and samples.turn_one_another(3, u)
            self.assertEqual(same(3, t, u), samples.same(3, t, u) if turning else [-3])

    def test_one_number_changed(self):
        # None of these would be taken to the other, were they not refused.
        for n, t in ((3, samples.mirrored(3)), (6, samples.conjugation(samples.SWAPS_OF_FOUR)),
                     (10, samples.conjugation(samples.SWAPS_OF_FIVE)), (16, samples.mirrored(16))):
            for k, z in product(range(n * n), {0, 1, n - 1, n, 255}):
                if z != t[k]:
                    changed = t[:k] + [z] + t[k + 1:]
                    self.assertEqual(same(n, changed, t), [-3])
                    self.assertEqual(same(n, t, changed), [-3])


if __name__ == "__main__":
    unittest.main()
