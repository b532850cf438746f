"""A test case that calls a function as the interface promises it may be called."""

import contextlib
import copy
import io
import unittest


class SteadyCase(unittest.TestCase):
    def same(self, told, asked, words):
        """Fails at once where the two differ: assertEqual takes minutes to lay long lists side by side."""
        if told != asked:
            self.fail(f"{words}: {str(told)[:200]} in the place of {str(asked)[:200]}")

    def call(self, function, *given):
        """The answer, after asking that the call changes, keeps and prints nothing."""
        before = copy.deepcopy(given)
        printed = io.StringIO()
        with contextlib.redirect_stdout(printed), contextlib.redirect_stderr(printed):
            first = function(*given)
            self.same(given, before, "what was handed in was changed")
            answer = copy.deepcopy(first)
            # Spoiling the answer shows whether it is kept, or is what was handed in.
            first.append("spoiled")
            self.same(given, before, "the answer is what was handed in")
            second = function(*given)
        self.same(second, answer, "a second call answered something else")
        self.same(given, before, "what was handed in was changed")
        self.assertEqual(printed.getvalue(), "")
        self.assertIs(type(answer), list)
        self.assertTrue(all(type(number) is int for number in answer))
        return answer
