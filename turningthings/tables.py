"""Tables of things that turn one another: x turns y into t at x n + y."""

MOST_THINGS = 16
MOST_THINGS_IN_TURNS = 10
MOST_THINGS_IN_IMAGES = 8
MOST_THINGS_IN_COLOURS = 8
MOST_LINES = 10
MOST_PASSINGS = 32

OUT_OF_RANGE = -2
NOT_TURNING = -3
NOT_THERE = -3
NONE_FOUND = -5
DIVISOR_TOGETHER = -5


def check(n, t):
    if n < 1 or n > MOST_THINGS:
        return [OUT_OF_RANGE]
    return [1 if turn_one_another(n, t) else 0]


def orbits(n, t):
    refused = refusal(n, t, MOST_THINGS)
    if refused != []:
        return refused
    least = [min(all_come_to(n, t, y)) for y in range(n)]
    return [len(set(least))] + least


def turns(n, t):
    refused = refusal(n, t, MOST_THINGS_IN_TURNS)
    if refused != []:
        return refused
    return [len(all_ways(n, t))]


def latin(n, t):
    refused = refusal(n, t, MOST_THINGS)
    if refused != []:
        return refused
    return [1 if all_turn_apart(n, t) else 0]


def same(n, t, u):
    refused = refusal_of_two(n, n, t, u, MOST_THINGS)
    if refused != []:
        return refused
    rows = rows_by_name(n, t, u)
    return [0] + rows[0] if rows != [] else [NONE_FOUND]


def images(n, m, t, u):
    refused = refusal_of_two(n, m, t, u, MOST_THINGS_IN_IMAGES)
    if refused != []:
        return refused
    return [0, len(all_rows(n, m, t, u))]


def colours(n, a, c, t, passings):
    refused = refusal_of_lines(n, a, c, t, passings)
    if refused != []:
        return refused
    return [0, len(all_colourings(n, a, t, each_passing(c, passings)))]


# A number below 0 is handed in as 2147483648 or more, so it is enough to ask what is above the range.
def affine(m, a):
    if m < 1 or m > MOST_THINGS or a > m:
        return [OUT_OF_RANGE]
    if have_divisor_together(m, a):
        return [DIVISOR_TOGETHER]
    return [0] + affine_table(m, a)


# The order matters: where n is out of range, t holds no table to look into.
def refusal(n, t, most):
    if n < 1 or n > most:
        return [OUT_OF_RANGE]
    if not turn_one_another(n, t):
        return [NOT_TURNING]
    return []


# Both ranges come first: where either is off, t and u both hold no table.
def refusal_of_two(n, m, t, u, most):
    if n < 1 or n > most or m < 1 or m > most:
        return [OUT_OF_RANGE]
    if not turn_one_another(n, t) or not turn_one_another(m, u):
        return [NOT_TURNING]
    return []


# A number below 0 is handed in as 2147483648 or more, so it is enough to ask what is above the range.
def refusal_of_lines(n, a, c, t, passings):
    if n < 1 or n > MOST_THINGS_IN_COLOURS or a > MOST_LINES or c > MOST_PASSINGS:
        return [OUT_OF_RANGE]
    if not turn_one_another(n, t):
        return [NOT_TURNING]
    for passing in each_passing(c, passings):
        if not is_there(a, passing):
            return [NOT_THERE]
    return []


def turned(n, t, x, y):
    return t[x * n + y]


# The order matters: only where all numbers are below n may they be looked up in the table again.
def turn_one_another(n, t):
    return all_below(n, t) and all_keep_themselves(n, t) and none_merge(n, t) and turns_are_turned(n, t)


def all_below(n, t):
    for z in t:
        if z >= n:
            return False
    return True


def all_keep_themselves(n, t):
    for x in range(n):
        if turned(n, t, x, x) != x:
            return False
    return True


def none_merge(n, t):
    for x in range(n):
        if len(set(t[x * n:x * n + n])) != n:
            return False
    return True


def turns_are_turned(n, t):
    for x in range(n):
        for y in range(n):
            if not turn_is_turned(n, t, x, y):
                return False
    return True


def turn_is_turned(n, t, x, y):
    turner = turned(n, t, x, y)
    for z in range(n):
        if turned(n, t, x, turned(n, t, y, z)) != turned(n, t, turner, turned(n, t, x, z)):
            return False
    return True


# The start is among them, since no turn is one, too.
def all_come_to(n, t, start):
    met = [start]
    done = 0
    while done < len(met):
        for x in range(n):
            z = turned(n, t, x, met[done])
            if z not in met:
                met.append(z)
        done = done + 1
    return met


# Turning back needs no step of its own: a turn taken often enough comes round to where it began.
def all_ways(n, t):
    rows = [t[x * n:x * n + n] for x in range(n)]
    ways = [tuple(range(n))]
    met = {ways[0]: True}
    done = 0
    while done < len(ways):
        for row in rows:
            way = tuple([row[z] for z in ways[done]])
            if way not in met:
                met[way] = True
                ways.append(way)
        done = done + 1
    return ways


def all_turn_apart(n, t):
    for y in range(n):
        if len(set([turned(n, t, x, y) for x in range(n)])) != n:
            return False
    return True


# No thing's name goes into ties and looks, so what a row of images takes to one another can't be told apart by them.
# In the order of names there may be many rows before it shows that all lead nowhere, so another order comes first.
def rows_by_name(n, t, u):
    ties_of_t = ties(n, t)
    ties_of_u = ties(n, u)
    if not are_alike(ties_of_t, ties_of_u):
        return []
    tied = ranks(ties_of_t[-1])
    others = ranks(ties_of_u[-1])
    if rows_alike(n, t, u, tied, others, telling_places(n, t, tied)) == []:
        return []
    return rows_alike(n, t, u, tied, others, list(range(n)))


# Looks from these tell all things apart; the one that tells most of them apart comes first.
def telling_places(n, t, tied):
    places = []
    while parts(n, t, tied, places) < n:
        counts = [parts(n, t, tied, places + [x]) for x in range(n)]
        places.append(counts.index(max(counts)))
    return places


def parts(n, t, tied, places):
    return len(set(look(n, t, tied, places)[-1]))


# A row of images of all things that looks like them from there takes t's turns to u's.
def rows_alike(n, t, u, tied, others, places):
    rows = [[]]
    for k in range(len(places)):
        aim = look(n, t, tied, places[:k + 1])
        found = []
        for row in rows:
            found.extend(longer_rows_alike(n, u, others, row, aim))
        rows = found
    return rows


# Where u's turns can be taken to themselves and one longer row to another, both lead on or neither does, and the
# first to lesser rows: so it is enough.
def longer_rows_alike(n, u, tied, row, aim):
    found = []
    for z in range(n):
        longer = row + [z]
        if z not in row and are_alike(look(n, u, tied, longer), aim):
            if not any([takes_to(n, u, tied, other, longer) for other in found]):
                found.append(longer)
    return found


# One guess after another: where they go astray, a row too many is kept, which takes time but changes no answer.
def takes_to(n, u, tied, first, second):
    while second != []:
        marks = ranks(look(n, u, tied, first)[-1])
        others = ranks(look(n, u, tied, second)[-1])
        if takes_turns(n, n, u, u, images_by_marks(n, marks, others)):
            return True
        x = one_of_most(marks)
        first = first + [x]
        places = [z for z in range(n) if others[z] == marks[x]]
        second = first_alike(n, u, tied, second, places, look(n, u, tied, first))
    return False


def first_alike(n, u, tied, row, places, aim):
    for z in places:
        if are_alike(look(n, u, tied, row + [z]), aim):
            return row + [z]
    return []


def images_by_marks(n, marks, others):
    order = sorted(range(n), key=lambda x: marks[x])
    images_in_order = sorted(range(n), key=lambda z: others[z])
    return [images_in_order[order.index(x)] for x in range(n)]


# Tried on many tables, a guess among the most that share a mark was wrong least often.
def one_of_most(marks):
    counts = [marks.count(mark) for mark in marks]
    return counts.index(max(counts))


def are_alike(one, other):
    return [sorted(signs) for signs in one] == [sorted(signs) for signs in other]


def ranks(signs):
    order = {}
    for k, one in enumerate(sorted(set(signs))):
        order[one] = k
    return [order[one] for one in signs]


# Signs are made of marks and marks of signs, as long as that tells more of them apart.
def told_apart(marks, signs_by):
    seen = []
    parted = 0
    while parted < len(set(marks)):
        parted = len(set(marks))
        seen.append(signs_by(marks))
        marks = ranks(seen[-1])
    return seen


# What any two things are to one another. It is looked at once alone, since it takes longest.
def ties(n, t):
    at_first = [1 if k // n == k % n else 0 for k in range(n * n)]
    return told_apart(at_first, lambda tied: [tie_sign(n, t, tied, k // n, k % n) for k in range(n * n)])


def tie_sign(n, t, tied, x, y):
    met = []
    for z in range(n):
        by_x = turned(n, t, x, z)
        by_y = turned(n, t, y, z)
        met.append((tied[x * n + z], tied[y * n + z], tied[by_x * n + by_y], tied[by_x * n + y], tied[by_y * n + x],
                    tied[turned(n, t, z, x) * n + y], tied[turned(n, t, z, y) * n + x]))
    return (tied[x * n + y], tuple(sorted(met)))


# What each thing is to those at the places, which are told from all others.
def look(n, t, tied, places):
    at_first = [places.index(x) + 1 if x in places else 0 for x in range(n)]
    return told_apart(at_first, lambda marks: [sign(n, t, tied, marks, x) for x in range(n)])


def sign(n, t, tied, marks, x):
    met = [(tied[x * n + y], marks[y], marks[turned(n, t, x, y)], marks[turned(n, t, y, x)]) for y in range(n)]
    return (marks[x], tuple(sorted(met)))


def all_rows(n, m, t, u):
    rows = [[]]
    for x in range(n):
        found = []
        for row in rows:
            found.extend(longer_rows(n, m, t, u, row))
        rows = found
    return rows


def longer_rows(n, m, t, u, row):
    return [row + [z] for z in range(m) if takes_turns(n, m, t, u, row + [z])]


# A turn into a thing behind the row's end is looked at when the row has come that far.
def takes_turns(n, m, t, u, row):
    for x in range(len(row)):
        for y in range(len(row)):
            z = turned(n, t, x, y)
            if z < len(row) and row[z] != turned(m, u, row[x], row[y]):
                return False
    return True


def each_passing(c, passings):
    return [passings[4 * k:4 * k + 4] for k in range(c)]


def is_there(a, passing):
    return max(passing[:3]) < a and passing[3] <= 1


def all_colourings(n, a, t, fours):
    rows = [[]]
    for line in range(a):
        found = []
        for row in rows:
            found.extend(longer_colourings(n, t, fours, row))
        rows = found
    return rows


def longer_colourings(n, t, fours, row):
    return [row + [z] for z in range(n) if are_coloured(n, t, fours, row + [z])]


# A passing with a line behind the row's end is looked at when the row has come that far.
def are_coloured(n, t, fours, row):
    for passing in fours:
        if max(passing[:3]) < len(row) and not is_coloured(n, t, passing, row):
            return False
    return True


def is_coloured(n, t, passing, row):
    over = row[passing[0]]
    comes_in = row[passing[1]]
    goes_out = row[passing[2]]
    if passing[3] == 1:
        return turned(n, t, over, comes_in) == goes_out
    return turned(n, t, over, goes_out) == comes_in


def have_divisor_together(m, a):
    for d in range(2, m + 1):
        if m % d == 0 and a % d == 0:
            return True
    return False


def affine_table(m, a):
    table = []
    for x in range(m):
        table.extend([((1 - a) * x + a * y) % m for y in range(m)])
    return table
