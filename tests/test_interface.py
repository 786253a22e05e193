"""How the call is made: what is handed in, what is given back, and that nothing else happens."""

import contextlib
import inspect
import io
import os
import subprocess
import sys
import unittest

from reference import Draw, flat
from sharedots.desk import share

TOP = os.path.join(os.path.dirname(os.path.abspath(__file__)), "..")


def refuse_change(self, *args, **named):
    raise AssertionError("what was handed in is changed")


class ReadOnlyList(list):
    """A list that fails as soon as it is changed, even if the change would be taken back."""


for changer in ("__setitem__", "__delitem__", "__iadd__", "__imul__", "append", "clear", "extend",
                "insert", "pop", "remove", "reverse", "sort"):
    setattr(ReadOnlyList, changer, refuse_change)


def drawn_calls(seed, count):
    draw = Draw(seed)
    calls = []
    for _ in range(count):
        things = draw.things()
        length = draw.length(things)
        if draw.below(5) == 0:
            length = length + 4194305
        calls.append((length, flat(things)))
    return calls


class Interface(unittest.TestCase):

    def test_arguments(self):
        self.assertEqual(list(inspect.signature(share).parameters), ["length", "things"])
        self.assertEqual(share(length=4, things=[0, 1, 9, 1, 1]), share(4, [0, 1, 9, 1, 1]))

    def test_gives_back_a_list_of_whole_numbers(self):
        for length, numbers in drawn_calls(11, 300):
            answer = share(length, numbers)
            self.assertIs(type(answer), list)
            self.assertEqual({type(number) for number in answer}, {int})
            self.assertEqual(len(answer), 2 if answer[0] == 0 else 3 + len(numbers) // 5)

    def test_what_is_handed_in_is_not_changed(self):
        for length, numbers in drawn_calls(12, 300):
            handed = list(numbers)
            share(length, handed)
            self.assertEqual(handed, numbers)

    def test_what_is_handed_in_is_not_changed_for_a_while(self):
        for length, numbers in drawn_calls(13, 300):
            handed = ReadOnlyList(numbers)
            self.assertEqual(share(length, handed), share(length, list(numbers)))

    def test_calls_one_after_another(self):
        calls = drawn_calls(14, 200)
        forth = [share(length, list(numbers)) for length, numbers in calls]
        back = [share(length, list(numbers)) for length, numbers in reversed(calls)]
        self.assertEqual(forth, back[::-1])

    def test_each_by_itself_in_a_fresh_python(self):
        calls = [(151, [0, 0, 20, 1, 0, 0, 0, 400, 2, 0]), (4194305, []), (3, [1, 5, 9, 1, 1, 0, 4, 9, 1, 2])]
        together = [share(length, list(numbers)) for length, numbers in calls]
        for (length, numbers), answer in zip(calls, together):
            code = f"from sharedots.desk import share; print(share({length}, {numbers}))"
            told = subprocess.run([sys.executable, "-c", code], cwd=TOP, capture_output=True, text=True, check=True)
            self.assertEqual(told.stdout, f"{answer}\n")

    def test_answer_is_the_callers_own(self):
        for length, numbers in [(12, [0, 3, 9, 1, 1]), (4194305, []), (0, [])]:
            first = share(length, numbers)
            kept = list(first)
            first.append(7)
            first[0] = 99
            self.assertEqual(share(length, numbers), kept)

    def test_prints_and_reads_nothing(self):
        out, err = io.StringIO(), io.StringIO()
        stdin, sys.stdin = sys.stdin, None
        try:
            with contextlib.redirect_stdout(out), contextlib.redirect_stderr(err):
                for length, numbers in drawn_calls(15, 50):
                    share(length, numbers)
        finally:
            sys.stdin = stdin
        self.assertEqual((out.getvalue(), err.getvalue()), ("", ""))

    def test_draws_in_its_own_modules_alone(self):
        code = ("import sys; before = set(sys.modules); import sharedots.desk; "
                "sharedots.desk.share(9, [0, 3, 9, 1, 1]); print(sorted(set(sys.modules) - before))")
        told = subprocess.run([sys.executable, "-c", code], cwd=TOP, capture_output=True, text=True, check=True)
        self.assertEqual(told.stdout, "['sharedots', 'sharedots.desk']\n")


if __name__ == "__main__":
    unittest.main()
