import contextlib
import inspect
import io
import unittest

import sample_tables as samples
from turningthings.tables import affine, check, colours, images, latin, orbits, same, turns

# (function, the most things in its range, the most things it is called with where it isn't refused)
OF_ONE_TABLE = ((check, 16, 16), (orbits, 16, 16), (turns, 10, 6), (latin, 16, 16))

PARAMETERS = ((check, ["n", "t"]), (orbits, ["n", "t"]), (turns, ["n", "t"]), (latin, ["n", "t"]),
              (same, ["n", "t", "u"]), (images, ["n", "m", "t", "u"]), (colours, ["n", "a", "c", "t", "passings"]),
              (affine, ["m", "a"]))


class Watched(list):
    """A list that can't be changed, not for a while either."""

    def refuse(self, *given, **named):
        raise AssertionError("what was handed in was changed")

    append = clear = extend = insert = pop = remove = reverse = sort = refuse
    __setitem__ = __delitem__ = __iadd__ = __imul__ = refuse


def calls():
    """(function, arguments) of every kind of answer and refusal."""
    yield from calls_of_one_table()
    yield from calls_of_same()
    yield from calls_of_images()
    yield from calls_of_colours()
    yield from calls_of_affine()


def calls_of_one_table():
    for function, most, most_asked in OF_ONE_TABLE:
        for n in (0, most + 1, 17, 4294967295):
            yield function, (n, [])
        for name, n, t in samples.up_to(most_asked, samples.turning()):
            yield function, (n, t)
        for n, t in samples.up_to(most, samples.not_turning()):
            yield function, (n, t)


def calls_of_same():
    for n in (0, 17, 4294967295):
        yield same, (n, [], [])
    for name, n, t in samples.up_to(6, samples.turning()):
        yield same, (n, t, t)
        yield same, (n, t, list(t))
        yield same, (n, t, samples.relabelled(n, t, list(samples.shuffles(n))[0]))
        yield same, (n, t, samples.still(n))
    for n, t in one_in_twenty(samples.not_turning()):
        yield same, (n, t, t)
        yield same, (n, t, samples.still(n))
        yield same, (n, samples.still(n), t)


def calls_of_images():
    for n, m in ((0, 1), (1, 0), (9, 8), (8, 9), (0, 9), (4294967295, 1), (1, 4294967295)):
        yield images, (n, m, [], [])
    for n, m in samples.sizes_of_images():
        yield images, (n, m, samples.still(n), samples.mirrored(m))
        yield images, (n, m, samples.mirrored(n), samples.still(m))
    for name, n, t in samples.up_to(5, samples.turning()):
        yield images, (n, n, t, t)
    for n, t in one_in_twenty(samples.up_to(8, samples.not_turning())):
        yield images, (n, n, t, t)
        yield images, (n, 8, t, samples.still(8))
        yield images, (1, n, [0], t)


def calls_of_colours():
    for n, a, c in ((0, 1, 1), (9, 1, 1), (4294967295, 0, 0), (1, 11, 1), (8, 2147483648, 0), (1, 1, 33),
                    (8, 0, 4294967295)):
        yield colours, (n, a, c, [], [])
    for name, n, t in samples.up_to(8, samples.turning()):
        yield colours, (n, 0, 0, t, [])
        yield colours, (n, 3, 3, t, samples.twisted(3, 1))
        yield colours, (n, 3, 32, t, [0, 1, 2, 0, 2, 1, 1, 1] * 16)
        yield colours, (n, 3, 1, t, [0, 1, 3, 0])
        yield colours, (n, 3, 1, t, [0, 1, 2, 2])
        yield colours, (n, 0, 1, t, [0, 0, 0, 0])
    for n, a in samples.sizes_of_colours():
        yield colours, (n, a, a, samples.mirrored(n), samples.twisted(a, 0))
    for n, t in one_in_twenty(samples.up_to(8, samples.not_turning())):
        yield colours, (n, 3, 3, t, samples.twisted(3, 1))
    # t and passings may be the very same list, too.
    one_for_both = [0, 1, 0, 1]
    yield colours, (2, 2, 1, one_for_both, one_for_both)


def calls_of_affine():
    for m in range(18):
        for a in [*range(m + 2), 2147483648, 4294967295]:
            yield affine, (m, a)
    for m in (2147483647, 2147483648, 4294967295):
        yield affine, (m, 1)


def one_in_twenty(tables):
    return list(tables)[::20]


def watched(arguments):
    """The arguments with lists that can't be changed; what was one list stays one."""
    lists = {id(given): Watched(given) for given in arguments if isinstance(given, list)}
    return [lists.get(id(given), given) for given in arguments]


class Interface(unittest.TestCase):
    def test_names_of_arguments(self):
        for function, names in PARAMETERS:
            self.assertEqual(list(inspect.signature(function).parameters), names)

    def test_arguments_by_name(self):
        for function, arguments in calls():
            named = dict(zip(dict(PARAMETERS)[function], arguments))
            self.assertEqual(function(**named), function(*arguments))

    def test_a_list_of_whole_numbers_is_given_back(self):
        for function, arguments in calls():
            answer = function(*arguments)
            self.assertIs(type(answer), list)
            self.assertEqual({type(z) for z in answer}, {int})

    def test_how_many_numbers_are_given_back(self):
        for function, arguments in calls():
            answer = function(*arguments)
            first = arguments[0]
            more = {orbits: first, same: first, images: 1, colours: 1, affine: first * first}.get(function, 0)
            self.assertEqual(len(answer), 1 if answer[0] < 0 else 1 + more)

    def test_every_answer_and_refusal_is_among_the_calls(self):
        met = {}
        for function, arguments in calls():
            met.setdefault(function, set()).add(min(function(*arguments)[0], 1))
        self.assertEqual(met, {check: {-2, 0, 1}, orbits: {-2, -3, 1}, turns: {-2, -3, 1}, latin: {-2, -3, 0, 1},
                               same: {-2, -3, -5, 0}, images: {-2, -3, 0}, colours: {-2, -3, 0},
                               affine: {-2, -5, 0}})

    def test_what_is_handed_in_is_not_changed(self):
        for function, arguments in calls():
            handed = watched(arguments)
            function(*handed)
            self.assertEqual(tuple(handed), arguments)

    def test_the_very_same_list_is_watched_as_one(self):
        t = samples.mirrored(3)
        handed = watched((3, t, t))
        self.assertIs(handed[1], handed[2])
        handed = watched((3, t, list(t)))
        self.assertIsNot(handed[1], handed[2])

    def test_what_is_given_back_is_not_what_was_handed_in(self):
        for function, arguments in calls():
            answer = function(*arguments)
            for given in arguments:
                self.assertIsNot(answer, given)

    def test_a_second_call_answers_the_same(self):
        for function, arguments in calls():
            first = function(*arguments)
            kept = list(first)
            first.clear()
            self.assertEqual(function(*arguments), kept)

    def test_calls_between_change_nothing(self):
        answers = [function(*arguments) for function, arguments in calls()]
        backwards = [function(*arguments) for function, arguments in reversed(list(calls()))]
        self.assertEqual(answers, backwards[::-1])

    def test_the_same_list_with_other_numbers_is_read_anew(self):
        t = samples.mirrored(3)
        self.assertEqual(self.answers_of_three(t), [[1], [1, 0, 0, 0], [6], [1], [-5], [0, 3], [0, 9]])
        t[:] = samples.still(3)
        self.assertEqual(self.answers_of_three(t), [[1], [3, 0, 1, 2], [1], [0], [0, 0, 1, 2], [0, 27], [0, 3]])
        t[1] = 0
        self.assertEqual(self.answers_of_three(t), [[0], [-3], [-3], [-3], [-3], [-3], [-3]])

    def answers_of_three(self, t):
        still = samples.still(3)
        alone = [function(3, t) for function in (check, orbits, turns, latin)]
        return alone + [same(3, t, still), images(3, 3, t, still), colours(3, 3, 3, t, samples.twisted(3, 1))]

    def test_the_same_passings_with_other_numbers_are_read_anew(self):
        t, passings = samples.affine(5, 2), [0, 1, 2, 1, 0, 2, 1, 0]
        self.assertEqual(colours(5, 3, 2, t, passings), [0, 25])
        passings[7] = 1
        self.assertEqual(colours(5, 3, 2, t, passings), [0, 5])
        passings[7] = 2
        self.assertEqual(colours(5, 3, 2, t, passings), [-3])

    def test_nothing_is_printed(self):
        out, err = io.StringIO(), io.StringIO()
        with contextlib.redirect_stdout(out), contextlib.redirect_stderr(err):
            for function, arguments in calls():
                function(*arguments)
        self.assertEqual((out.getvalue(), err.getvalue()), ("", ""))


if __name__ == "__main__":
    unittest.main()
