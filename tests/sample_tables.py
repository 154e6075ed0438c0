"""Tables for the tests, and slow second ways to the answers."""

from functools import lru_cache
from itertools import permutations, product


def flat(rows):
    return [z for row in rows for z in row]


def table(n, turn):
    return [turn(x, y) for x in range(n) for y in range(n)]


def still(n):
    """x turns y into y."""
    return table(n, lambda x, y: y)


def mirrored(n):
    """Points on a ring, mirrored in points."""
    return table(n, lambda x, y: (2 * x - y) % n)


def affine(m, a):
    return table(m, lambda x, y: ((1 - a) * x + a * y) % m)


def field_affine(bits, overflow):
    """affine with a = 2, over the numbers of so many bits with overflow for what is carried out of them."""
    n = 2 ** bits

    def twice(z):
        return 2 * z if 2 * z < n else 2 * z ^ overflow

    return table(n, lambda x, y: x ^ twice(x ^ y))


def pairs(n, t, m, u):
    """Pairs of a thing of t and one of u, each turned by itself."""
    return table(n * m, lambda x, y: t[x // m * n + y // m] * m + u[x % m * m + y % m])


def apart(n, t, m, u):
    """The things of t, then those of u; neither moves the other's."""
    def turn(x, y):
        if x < n and y < n:
            return t[x * n + y]
        if x >= n and y >= n:
            return n + u[(x - n) * m + y - n]
        return y

    return table(n + m, turn)


def still_but(n, moved):
    """Each thing moves nothing, but those of moved move as the rows given there."""
    return flat([moved.get(x, list(range(n))) for x in range(n)])


def compose(p, q):
    return tuple(p[k] for k in q)


@lru_cache(maxsize=None)
def inverse(p):
    return tuple(sorted(range(len(p)), key=lambda k: p[k]))


@lru_cache(maxsize=None)
def conjugated(x, y):
    return compose(compose(x, y), inverse(x))


def group(*generators):
    """All products of the generators, in order."""
    found = {tuple(range(len(generators[0])))}
    while True:
        more = found | {compose(p, g) for p in found for g in generators}
        if more == found:
            return sorted(found)
        found = more


def conjugation(members):
    """x turns y into x y x^-1; members are closed under that."""
    return table(len(members), lambda x, y: members.index(conjugated(members[x], members[y])))


THREE = group((1, 0, 2), (1, 2, 0))
FOUR_EVEN = group((1, 2, 0, 3), (0, 2, 3, 1))
RING_OF_EIGHT = group((1, 2, 3, 4, 5, 6, 7, 0), (0, 7, 6, 5, 4, 3, 2, 1))
QUATERNIONS = group((1, 2, 3, 0, 5, 6, 7, 4), (4, 7, 6, 5, 2, 1, 0, 3))
FOUR = sorted(permutations(range(4)))
FIVE = sorted(permutations(range(5)))
FIVE_EVEN = group((1, 2, 3, 4, 0), (1, 2, 0, 3, 4))


def made_of(y, members):
    """All that members make of y by x y x^-1, in order."""
    return sorted({conjugated(x, y) for x in members})


SWAPS_OF_FOUR = made_of((1, 0, 2, 3), FOUR)
ROUNDS_OF_FOUR = made_of((1, 2, 3, 0), FOUR)
SWAPS_OF_FIVE = made_of((1, 0, 2, 3, 4), FIVE)
DOUBLE_SWAPS_OF_FIVE = made_of((1, 0, 3, 2, 4), FIVE)
HALF_THE_ROUNDS_OF_FIVE = made_of((1, 2, 3, 4, 0), FIVE_EVEN)


def relabelled(n, t, names):
    """The table in which names[x] stands for x."""
    u = [None] * (n * n)
    for x, y in product(range(n), repeat=2):
        u[names[x] * n + names[y]] = names[t[x * n + y]]
    return u


def shuffles(n):
    """Some ways to name n things anew."""
    yield [n - 1 - x for x in range(n)]
    yield [(x + n // 2) % n for x in range(n)]
    yield [x for x in range(n) if x % 2] + [x for x in range(n) if x % 2 == 0]


def turning():
    """(name, n, t) of tables whose things turn one another."""
    for n in range(1, 17):
        yield f"still {n}", n, still(n)
        yield f"mirrored {n}", n, mirrored(n)
    for m, a in ((4, 3), (5, 2), (7, 3), (8, 5), (9, 4), (13, 6), (15, 2), (16, 3), (16, 5), (16, 9)):
        yield f"affine {m} {a}", m, affine(m, a)
    for name, members in (("group of 6", THREE), ("group of 12", FOUR_EVEN), ("group of 16", RING_OF_EIGHT),
                          ("quaternions", QUATERNIONS), ("swaps of 4", SWAPS_OF_FOUR),
                          ("rounds of 4", ROUNDS_OF_FOUR), ("swaps of 5", SWAPS_OF_FIVE),
                          ("double swaps of 5", DOUBLE_SWAPS_OF_FIVE),
                          ("half the rounds of 5", HALF_THE_ROUNDS_OF_FIVE)):
        yield name, len(members), conjugation(members)
    for bits, overflow in ((2, 0b111), (3, 0b1011), (4, 0b10011)):
        yield f"field of {2 ** bits}", 2 ** bits, field_affine(bits, overflow)
    yield "pairs of 3 and 4", 12, pairs(3, mirrored(3), 4, field_affine(2, 0b111))
    yield "pairs of 4 and 4", 16, pairs(4, field_affine(2, 0b111), 4, field_affine(2, 0b111))
    yield "pairs of 3 and 5, the 5 still", 15, pairs(3, mirrored(3), 5, still(5))
    yield "one swaps two", 3, [0, 2, 1, 0, 1, 2, 0, 1, 2]
    yield "the last moves all others round", 16, still_but(16, {15: [(y + 1) % 15 for y in range(15)] + [15]})
    yield "the first moves all others round", 16, still_but(16, {0: [0] + [y % 15 + 1 for y in range(1, 16)]})
    yield "two move four", 6, still_but(6, {4: [1, 0, 3, 2, 4, 5], 5: [2, 3, 0, 1, 4, 5]})
    yield "the last moves five round", 6, still_but(6, {5: [1, 2, 3, 4, 0, 5]})
    yield "the last moves two and three round", 6, still_but(6, {5: [1, 0, 3, 4, 2, 5]})
    yield "two threes, each mirrored", 6, apart(3, mirrored(3), 3, mirrored(3))


def too_large():
    """Tables with one number that is n or more; where n is above 1, x keeps x and nothing is merged."""
    for n, t in ((1, still(1)), (2, still(2)), (3, mirrored(3)), (7, mirrored(7)), (8, still(8)), (9, mirrored(9)),
                 (10, mirrored(10)), (16, still(16)), (16, mirrored(16))):
        for k in range(n * n):
            if n > 1 and k // n == k % n:
                continue
            for z in (n, n + t[k], 2 * n, n * n - 1, n * n, 255):
                if z >= n:
                    yield n, t[:k] + [z] + t[k + 1:]


def not_keeping():
    """Tables with an x that turns x into another, and nothing else amiss."""
    for n in (2, 3, 5, 6, 7, 8, 9, 10, 16):
        yield n, table(n, lambda x, y: (y + 1) % n)
        # Where n is odd, the middle thing keeps itself; the others don't.
        yield n, table(n, lambda x, y: n - 1 - y)
    yield 3, [0, 2, 1] * 3
    yield 16, (list(range(14)) + [15, 14]) * 16


def merging():
    """Tables with an x that turns two things into the same, and nothing else amiss."""
    for n in (2, 3, 5, 6, 7, 8, 9, 10, 16):
        yield n, table(n, lambda x, y: x)
        yield n, table(n, max)
        yield n, table(n, min)
    yield 3, [0, 1, 2, 0, 1, 2, 0, 0, 2]
    yield 3, [0, 2, 2, 0, 1, 2, 0, 1, 2]
    yield 16, still_but(16, {15: [0] + list(range(14)) + [15]})


def not_turned():
    """Tables whose turns aren't turned, and nothing else amiss."""
    yield 3, [0, 2, 1, 2, 1, 0, 0, 1, 2]
    yield 4, [0, 2, 3, 1, 0, 1, 3, 2, 0, 1, 2, 3, 0, 1, 2, 3]
    yield 4, [0, 1, 2, 3, 0, 1, 2, 3, 0, 3, 2, 1, 1, 0, 2, 3]
    # Only the turn by the last (the first) thing is amiss here.
    yield 5, still_but(5, {0: [0, 1, 3, 2, 4], 4: [1, 0, 2, 3, 4]})
    yield 5, still_but(5, {0: [0, 1, 2, 4, 3], 4: [0, 2, 1, 3, 4]})
    for n in (6, 7, 8, 9, 10, 16):
        yield n, still_but(n, {0: [0, 2, 1] + list(range(3, n)), n - 1: [1, 0] + list(range(2, n))})
        yield n, still_but(n, {n - 1: list(range(n - 3)) + [n - 2, n - 3, n - 1],
                               n - 2: list(range(n - 4)) + [n - 3, n - 4, n - 2, n - 1]})


def not_turning():
    for makes in (too_large, not_keeping, merging, not_turned):
        yield from makes()


def up_to(most, tables):
    """Those of (name, n, t) or (n, t) with at most so many things."""
    return [one for one in tables if one[-2] <= most]


def rows_of(n, t):
    return [tuple(t[x * n:x * n + n]) for x in range(n)]


def keeps_itself(n, t):
    return all(row[x] == x for x, row in enumerate(rows_of(n, t)))


def merges_none(n, t):
    return all(len(set(row)) == n for row in rows_of(n, t))


def turns_turned(n, t):
    rows = rows_of(n, t)
    return all(compose(rows[x], rows[y]) == compose(rows[rows[x][y]], rows[x])
               for x, y in product(range(n), repeat=2))


def turn_one_another(n, t):
    return max(t) < n and keeps_itself(n, t) and merges_none(n, t) and turns_turned(n, t)


def tables_of_keeping_rows(n):
    """All tables in which x keeps x and merges nothing."""
    rows = [[p for p in permutations(range(n)) if p[x] == x] for x in range(n)]
    return [flat(choice) for choice in product(*rows)]


def orbits(n, t):
    """The answer by labels that sink until none can sink further."""
    label = list(range(n))
    sinking = True
    while sinking:
        sinking = False
        for x, y in product(range(n), repeat=2):
            z = t[x * n + y]
            low = min(label[y], label[z])
            sinking = sinking or label[y] != label[z]
            label[y] = label[z] = low
    return [len(set(label))] + label


@lru_cache(maxsize=None)
def every_turning(n):
    """All tables of n things that turn one another, found row by row; what rows make of rows is filled in."""
    found, ahead = [], [{}]
    while ahead:
        rows = ahead.pop()
        if len(rows) == n:
            found.append(tuple(flat(rows[x] for x in range(n))))
            continue
        x = min(set(range(n)) - set(rows))
        tried = [filled_in({**rows, x: p}) for p in permutations(range(n)) if p[x] == x]
        ahead.extend(more for more in tried if more is not None)
    return found


def filled_in(rows):
    """With each row that two others make, or None if it is there and another."""
    size = 0
    while size != len(rows):
        size = len(rows)
        for x, y in product(list(rows), repeat=2):
            made = conjugated(rows[x], rows[y])
            if rows.setdefault(rows[x][y], made) != made:
                return None
    return rows


def turns(n, t):
    """The answer thing by thing: how many ways to move it, times those of the turns that then keep it."""
    keeping, size = set(rows_of(n, t)), 1
    for start in range(n):
        ways = {start: tuple(range(n))}
        ahead = [start]
        while ahead:
            y = ahead.pop()
            for g in keeping:
                if g[y] not in ways:
                    ways[g[y]] = compose(g, ways[y])
                    ahead.append(g[y])
        keeping = {compose(inverse(ways[g[y]]), compose(g, ways[y])) for y in ways for g in keeping}
        size *= len(ways)
    return [size]


def latin(n, t):
    """The answer by pairs: no two rows meet anywhere."""
    rows = rows_of(n, t)
    meeting = any(rows[x][y] == rows[w][y] for x, w, y in product(range(n), repeat=3) if x < w)
    return [0 if meeting else 1]


@lru_cache(maxsize=None)
def classes(n):
    """For one table of each sort: it, and all that other names make of it, each with the first names that do."""
    left = dict.fromkeys(every_turning(n))
    found = []
    while left:
        t = next(iter(left))
        named = {}
        for names in permutations(range(n)):
            named.setdefault(tuple(relabelled(n, t, names)), list(names))
        for u in named:
            del left[u]
        found.append((t, named))
    return found


def same(n, t, u):
    """The answer by trying all names, in order."""
    for names in permutations(range(n)):
        if relabelled(n, t, names) == list(u):
            return [0, *names]
    return [-5]


def rounds(row):
    """For each thing, how many turns by the row bring it back to itself; in order."""
    found = []
    for y in range(len(row)):
        z, size = row[y], 1
        while z != y:
            z, size = row[z], size + 1
        found.append(size)
    return sorted(found)


def outline(n, t):
    """What other names don't change: where it differs, tables are not the same."""
    least = orbits(n, t)[1:]
    return sorted((rounds(row), least.count(least[x])) for x, row in enumerate(rows_of(n, t)))


def swapping(n, swaps):
    """Things of which each swaps the pairs named for it; then come the pairs."""
    first = len(swaps)

    def turn(x, y):
        swapped = x < first <= y and (y - first) // 2 in swaps[x]
        return first + ((y - first) ^ 1) if swapped else y

    return table(n, turn)


def taken_round(size, steps):
    """Rings of that size; then things that take each ring round, by the steps that the ring's row has for them."""
    rings, turners = size * len(steps), len(steps[0])

    def turn(x, y):
        if x < rings or y >= rings:
            return y
        return y - y % size + (y + steps[y // size][x - rings]) % size

    return table(rings + turners, turn)


def joined(edges):
    """Pairs of things; those of a pair swap the pairs that it is joined to."""
    pairs = 1 + max(max(edge) for edge in edges)

    def turn(x, y):
        return y ^ 1 if (x // 2, y // 2) in edges or (y // 2, x // 2) in edges else y

    return table(2 * pairs, turn)


def all_apart(*tables):
    """The things of each (n, t), one behind the other; none moves another's."""
    n, t = tables[0]
    for m, u in tables[1:]:
        n, t = n + m, apart(n, t, m, u)
    return t


def first_found(n, t, u, row=()):
    """The answer by images in order, each that doesn't contradict those before; slow where all lead nowhere."""
    if len(row) == n:
        return list(row)
    for z in sorted(set(range(n)) - set(row)):
        longer = (*row, z)
        size = len(longer)
        if all(t[x * n + y] >= size or longer[t[x * n + y]] == u[longer[x] * n + longer[y]]
               for x in range(size) for y in range(size)):
            found = first_found(n, t, u, longer)
            if found is not None:
                return found
    return None


def takes(n, m, t, u, row):
    return all(row[t[x * n + y]] == u[row[x] * m + row[y]] for x in range(n) for y in range(n))


def images(n, m, t, u):
    """The answer by trying all rows."""
    return [0, sum(takes(n, m, t, u, row) for row in product(range(m), repeat=n))]


def sizes_of_images():
    """All n and m that images is called with where it isn't refused."""
    return [(n, m) for n in range(1, 9) for m in range(1, 9) if m ** n <= 4000]


def turned_back(n, t):
    """x turns y into what x turns into y by t."""
    return flat(inverse(row) for row in rows_of(n, t))


def holds(n, t, row, over, comes_in, goes_out, side):
    first, last = (comes_in, goes_out) if side == 1 else (goes_out, comes_in)
    return t[row[over] * n + row[first]] == row[last]


def fours(passings):
    return list(zip(*[iter(passings)] * 4))


def colours(n, a, t, passings):
    """The answer by trying all colours for all lines."""
    return [0, sum(all(holds(n, t, row, *four) for four in fours(passings)) for row in product(range(n), repeat=a))]


def sizes_of_colours():
    """All n and a that colours is called with where it isn't refused."""
    return [(n, a) for n in range(1, 9) for a in range(11) if n ** a <= 4000]


def twisted(k, side):
    """Two threads twisted round one another k times and closed: of 3 twists the trefoil, of 2 two linked rings."""
    return flat((z, (z - 1) % k, (z + 1) % k, side) for z in range(k))


FIGURE_EIGHT = [0, 1, 2, 1, 2, 3, 0, 1, 1, 2, 3, 0, 3, 0, 1, 0]


def planted(n, a, c, t, chance):
    """Up to c passings that hold for some colours drawn by chance, so that there's more than one way."""
    row = [chance.randrange(n) for line in range(a)]
    passings = []
    for tried in range(8 * c):
        four = [chance.randrange(a), chance.randrange(a), chance.randrange(a), chance.randrange(2)]
        if len(passings) < 4 * c and holds(n, t, row, *four):
            passings += four
    return passings
