"""Tables of things that turn one another: x turns y into t at x n + y."""

MOST_THINGS = 16
MOST_THINGS_IN_TURNS = 10
MOST_THINGS_JUST_TRIED = 6
MOST_THINGS_IN_IMAGES = 8
MOST_THINGS_IN_COLOURS = 8
MOST_LINES = 10
MOST_PASSINGS = 32

KEPT = -1

OUT_OF_RANGE = -2
NOT_TURNING = -3
NOT_THERE = -3
NONE_FOUND = -5
DIVISOR_TOGETHER = -5


def check(n, t):
    if n < 1 or n > MOST_THINGS:
        return [OUT_OF_RANGE]
    return [1 if turn_one_another(n, t) else 0]


def orbits(n, t):
    refused = refusal(n, t, MOST_THINGS)
    if refused != []:
        return refused
    least = [min(all_come_to(n, t, y)) for y in range(n)]
    return [len(set(least))] + least


def turns(n, t):
    refused = refusal(n, t, MOST_THINGS_IN_TURNS)
    if refused != []:
        return refused
    return [len(all_ways(n, t))]


def latin(n, t):
    refused = refusal(n, t, MOST_THINGS)
    if refused != []:
        return refused
    return [1 if all_turn_apart(n, t) else 0]


def same(n, t, u):
    refused = refusal_of_two(n, n, t, u, MOST_THINGS)
    if refused != []:
        return refused
    # Among many things, to try all rows would take too long to tell that there's none.
    if n > MOST_THINGS_JUST_TRIED and look_apart(n, t, u):
        return [NONE_FOUND]
    row = first_row_of_all(n, t, u)
    if row == []:
        return [NONE_FOUND]
    return [0] + row


def images(n, m, t, u):
    refused = refusal_of_two(n, m, t, u, MOST_THINGS_IN_IMAGES)
    if refused != []:
        return refused
    return [0, len(all_rows(n, m, t, u))]


def colours(n, a, c, t, passings):
    refused = refusal_of_lines(n, a, c, t, passings)
    if refused != []:
        return refused
    return [0, len(all_colourings(n, a, t, each_passing(c, passings)))]


# A number below 0 is handed in as 2147483648 or more, so it is enough to ask what is above the range.
def affine(m, a):
    if m < 1 or m > MOST_THINGS or a > m:
        return [OUT_OF_RANGE]
    if have_divisor_together(m, a):
        return [DIVISOR_TOGETHER]
    return [0] + affine_table(m, a)


# The order matters: where n is out of range, t holds no table to look into.
def refusal(n, t, most):
    if n < 1 or n > most:
        return [OUT_OF_RANGE]
    if not turn_one_another(n, t):
        return [NOT_TURNING]
    return []


# Both ranges come first: where either is off, t and u both hold no table.
def refusal_of_two(n, m, t, u, most):
    if n < 1 or n > most or m < 1 or m > most:
        return [OUT_OF_RANGE]
    if not turn_one_another(n, t) or not turn_one_another(m, u):
        return [NOT_TURNING]
    return []


# A number below 0 is handed in as 2147483648 or more, so it is enough to ask what is above the range.
def refusal_of_lines(n, a, c, t, passings):
    if n < 1 or n > MOST_THINGS_IN_COLOURS or a > MOST_LINES or c > MOST_PASSINGS:
        return [OUT_OF_RANGE]
    if not turn_one_another(n, t):
        return [NOT_TURNING]
    for passing in each_passing(c, passings):
        if not is_there(a, passing):
            return [NOT_THERE]
    return []


def turned(n, t, x, y):
    return t[x * n + y]


# The order matters: only where all numbers are below n may they be looked up in the table again.
def turn_one_another(n, t):
    return all_below(n, t) and all_keep_themselves(n, t) and none_merge(n, t) and turns_are_turned(n, t)


def all_below(n, t):
    for z in t:
        if z >= n:
            return False
    return True


def all_keep_themselves(n, t):
    for x in range(n):
        if turned(n, t, x, x) != x:
            return False
    return True


def none_merge(n, t):
    for x in range(n):
        if len(set(t[x * n:x * n + n])) != n:
            return False
    return True


def turns_are_turned(n, t):
    for x in range(n):
        for y in range(n):
            if not turn_is_turned(n, t, x, y):
                return False
    return True


def turn_is_turned(n, t, x, y):
    turner = turned(n, t, x, y)
    for z in range(n):
        if turned(n, t, x, turned(n, t, y, z)) != turned(n, t, turner, turned(n, t, x, z)):
            return False
    return True


# The start is among them, since no turn is one, too.
def all_come_to(n, t, start):
    met = [start]
    done = 0
    while done < len(met):
        for x in range(n):
            z = turned(n, t, x, met[done])
            if z not in met:
                met.append(z)
        done = done + 1
    return met


# Turning back needs no step of its own: a turn taken often enough comes round to where it began.
def all_ways(n, t):
    rows = [t[x * n:x * n + n] for x in range(n)]
    ways = [tuple(range(n))]
    met = {ways[0]: True}
    done = 0
    while done < len(ways):
        for row in rows:
            way = tuple([row[z] for z in ways[done]])
            if way not in met:
                met[way] = True
                ways.append(way)
        done = done + 1
    return ways


def all_turn_apart(n, t):
    for y in range(n):
        if len(set([turned(n, t, x, y) for x in range(n)])) != n:
            return False
    return True


# No thing's name goes into a look, so what a row of images takes to one another looks the same.
def look_apart(n, t, u):
    return look(n, t, []) != look(n, u, []) or looks_from_all(n, t) != looks_from_all(n, u)


# From two things at once: from one alone, tables that differ as affine's do by a look much alike.
def looks_from_all(n, t):
    found = []
    for x in range(n):
        found.extend([look(n, t, [x, y]) for y in range(n)])
    return sorted(found)


# Things with the same mark get others as long as their turns tell some of them apart.
def look(n, t, places):
    marks = [0] * n
    for k, x in enumerate(places):
        marks[x] = k + 1
    seen = []
    parted = 0
    while parted < len(set(marks)):
        parted = len(set(marks))
        signs = [sign(n, t, marks, x) for x in range(n)]
        seen.append(sorted(signs))
        order = sorted(set(signs))
        marks = [order.index(one) for one in signs]
    return seen


# A thing that is kept is told from one that is turned into another with the same mark.
def sign(n, t, marks, x):
    met = []
    for y in range(n):
        into = turned(n, t, x, y)
        made = turned(n, t, y, x)
        met.append((marks[y], KEPT if into == y else marks[into], KEPT if made == x else marks[made]))
    return (marks[x], tuple(sorted(met)))


# What is put on last is taken up first, so the least images are put on last.
def first_row_of_all(n, t, u):
    ahead = [[]]
    while ahead != []:
        row = ahead.pop()
        if len(row) == n:
            return row
        for longer in reversed(longer_rows(n, n, t, u, row)):
            if len(set(longer)) == len(longer):
                ahead.append(longer)
    return []


def all_rows(n, m, t, u):
    rows = [[]]
    for x in range(n):
        found = []
        for row in rows:
            found.extend(longer_rows(n, m, t, u, row))
        rows = found
    return rows


def longer_rows(n, m, t, u, row):
    return [row + [z] for z in range(m) if takes_turns(n, m, t, u, row + [z])]


# A turn into a thing behind the row's end is looked at when the row has come that far.
def takes_turns(n, m, t, u, row):
    for x in range(len(row)):
        for y in range(len(row)):
            z = turned(n, t, x, y)
            if z < len(row) and row[z] != turned(m, u, row[x], row[y]):
                return False
    return True


def each_passing(c, passings):
    return [passings[4 * k:4 * k + 4] for k in range(c)]


def is_there(a, passing):
    return max(passing[:3]) < a and passing[3] <= 1


def all_colourings(n, a, t, fours):
    rows = [[]]
    for line in range(a):
        found = []
        for row in rows:
            found.extend(longer_colourings(n, t, fours, row))
        rows = found
    return rows


def longer_colourings(n, t, fours, row):
    return [row + [z] for z in range(n) if are_coloured(n, t, fours, row + [z])]


# A passing with a line behind the row's end is looked at when the row has come that far.
def are_coloured(n, t, fours, row):
    for passing in fours:
        if max(passing[:3]) < len(row) and not is_coloured(n, t, passing, row):
            return False
    return True


def is_coloured(n, t, passing, row):
    over = row[passing[0]]
    comes_in = row[passing[1]]
    goes_out = row[passing[2]]
    if passing[3] == 1:
        return turned(n, t, over, comes_in) == goes_out
    return turned(n, t, over, goes_out) == comes_in


def have_divisor_together(m, a):
    for d in range(2, m + 1):
        if m % d == 0 and a % d == 0:
            return True
    return False


def affine_table(m, a):
    table = []
    for x in range(m):
        table.extend([((1 - a) * x + a * y) % m for y in range(m)])
    return table
