import contextlib
import inspect
import io
import unittest

import sample_tables as samples
from turningthings.tables import check, latin, orbits, turns

# (function, the most things in its range, the most things it is called with where it isn't refused)
FUNCTIONS = ((check, 16, 16), (orbits, 16, 16), (turns, 10, 6), (latin, 16, 16))


class Watched(list):
    """A list that can't be changed, not for a while either."""

    def refuse(self, *given, **named):
        raise AssertionError("what was handed in was changed")

    append = clear = extend = insert = pop = remove = reverse = sort = refuse
    __setitem__ = __delitem__ = __iadd__ = __imul__ = refuse


def calls():
    """(function, n, t) of every kind of answer and refusal."""
    for function, most, most_asked in FUNCTIONS:
        for n in (0, most + 1, 17, 4294967295):
            yield function, n, []
        for name, n, t in samples.up_to(most_asked, samples.turning()):
            yield function, n, t
        for n, t in samples.up_to(most, samples.not_turning()):
            yield function, n, t


class Interface(unittest.TestCase):
    def test_names_of_arguments(self):
        for function, most, most_asked in FUNCTIONS:
            self.assertEqual(list(inspect.signature(function).parameters), ["n", "t"])

    def test_a_list_of_whole_numbers_is_given_back(self):
        for function, n, t in calls():
            answer = function(n, t)
            self.assertIs(type(answer), list)
            self.assertEqual({type(z) for z in answer}, {int})

    def test_how_many_numbers_are_given_back(self):
        for function, n, t in calls():
            answer = function(n, t)
            whole = function is orbits and answer[0] > 0
            self.assertEqual(len(answer), 1 + n if whole else 1)

    def test_what_is_handed_in_is_not_changed(self):
        for function, n, t in calls():
            handed = Watched(t)
            function(n, handed)
            self.assertEqual(list(handed), t)

    def test_a_second_call_answers_the_same(self):
        for function, n, t in calls():
            first = function(n, t)
            kept = list(first)
            first.clear()
            self.assertEqual(function(n, t), kept)

    def test_calls_between_change_nothing(self):
        answers = [function(n, t) for function, n, t in calls()]
        backwards = [function(n, t) for function, n, t in reversed(list(calls()))]
        self.assertEqual(answers, backwards[::-1])

    def test_the_same_list_with_other_numbers_is_read_anew(self):
        t = samples.mirrored(3)
        self.assertEqual([function(3, t) for function, *most in FUNCTIONS], [[1], [1, 0, 0, 0], [6], [1]])
        t[:] = samples.still(3)
        self.assertEqual([function(3, t) for function, *most in FUNCTIONS], [[1], [3, 0, 1, 2], [1], [0]])
        t[1] = 0
        self.assertEqual([function(3, t) for function, *most in FUNCTIONS], [[0], [-3], [-3], [-3]])

    def test_nothing_is_printed(self):
        out, err = io.StringIO(), io.StringIO()
        with contextlib.redirect_stdout(out), contextlib.redirect_stderr(err):
            for function, n, t in calls():
                function(n, t)
        self.assertEqual((out.getvalue(), err.getvalue()), ("", ""))


if __name__ == "__main__":
    unittest.main()
