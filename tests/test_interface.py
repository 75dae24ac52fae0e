"""The interface: what is handed in, what is given back, and that nothing is kept."""

import contextlib
import io
import subprocess
import sys
import unittest
from pathlib import Path

from faultfinder.circuit import answers
from tests.helper import (AND, NEITHER, OR, TOP, begin, explains, gate, joined, least, may, measure_next, seen, sure,
                          suspects, test)

TOP_FOLDER = Path(__file__).resolve().parent.parent

SESSION = joined([
    begin(9), begin(2), gate(AND, 0, 1), gate(NEITHER, 2, 2), gate(5, 0, 0), test(3), seen(0, 1, 1), seen(0, 1, 0),
    seen(3, 0, 0), explains(0), explains(1), explains(2), explains(4), least(), suspects(), sure(), may(1, 0, 0),
    may(0, 0, 0), may(1, 1, 0), may(4, 0, 0), measure_next(0), measure_next(1), seen(0, 0, 1), measure_next(0), least(),
    suspects(), sure(),
])
GIVEN_BACK = [
    1, -22, 1, 0, 1, 0, 1, 1, 1, -22, 1, 0, 1, 0, 1, -17, 1, -2, 1, 0, 1, 1, 1, 1, 1, -22, 3, 2, 1, 2, 2, 1, 3, 3, 0, 0, 0,
    1, 1, 1, -61, 1, -2, 1, -22, 3, 0, 1, 1, 1, -2, 1, 0, 1, -6, 2, 1, 2, 2, 1, 2, 3, 0, 2, 1,
]
OTHER = joined([begin(4), gate(OR, 0, 3), test(0), seen(0, 0, 1), explains(0), explains(1), least(), measure_next(0)])


class GivenBack(unittest.TestCase):
    def test_how_many_then_these_for_each_call(self):
        self.assertEqual(answers(list(SESSION)), GIVEN_BACK)

    def test_calls_as_numbers(self):
        self.assertEqual(
            answers([0, 1, 1, 0, 0, 0, 2, 1, 3, 0, 0, 0, 4, 0, 4, 1]), [1, 0, 1, 0, 1, 0, 1, 0, 1, 0, 1, 1]
        )
        self.assertEqual(
            answers([0, 1, 1, 0, 0, 0, 2, 1, 9, 0, 3, 0, 0, 0, 5, 6, 7, 8, 1, 0, 0, 9, 0]),
            [1, 0, 1, 0, 1, 0, 3, 0, 0, 1, 1, 0, 2, 1, 1, 2, 1, 1, 3, 0, 1, 0, 1, 1, 1, -6],
        )

    def test_no_least_suspect_is_how_many_alone(self):
        self.assertEqual(answers([0, 1, 5, 6, 7]), [1, 0, 2, 1, 0, 1, 0, 3, 0, 0, 0])

    def test_one_call_alone(self):
        self.assertEqual(answers([0, 0]), [1, -22])
        self.assertEqual(answers([0, TOP]), [1, -22])
        self.assertEqual(answers([0, 4]), [1, 0])

    def test_a_list_of_whole_numbers(self):
        given_back = answers(list(SESSION))
        self.assertIs(type(given_back), list)
        self.assertEqual({type(number) for number in given_back}, {int})

    def test_as_many_calls_as_there_may_be(self):
        full = [begin(4), *[gate(AND, 0, 1)] * 8, *[test(15)] * 6]
        calls = full + [explains(0)] * (400 - len(full))
        self.assertEqual(answers(joined(calls)), joined([1, k] for k in [0, *range(8), *range(6)]) + [1, 1] * 385)


class HandedIn(unittest.TestCase):
    def test_is_as_it_was(self):
        calls = list(SESSION)
        answers(calls)
        self.assertEqual(calls, SESSION)

    def test_is_not_changed_for_a_while_either(self):
        class Unchanging(list):
            def refuse(self, *given, **named):
                raise AssertionError("the list is changed")

            __setitem__ = __delitem__ = __iadd__ = __imul__ = refuse
            append = clear = extend = insert = pop = remove = reverse = sort = refuse

        self.assertEqual(answers(Unchanging(SESSION)), GIVEN_BACK)

    def test_what_is_given_back_is_a_list_of_its_own(self):
        calls = list(SESSION)
        given_back = answers(calls)
        given_back.clear()
        self.assertEqual(calls, SESSION)
        self.assertEqual(answers(calls), GIVEN_BACK)


class NothingKept(unittest.TestCase):
    def test_the_same_list_twice_with_others_in_between(self):
        other = answers(list(OTHER))
        for again in range(3):
            self.assertEqual(answers(list(SESSION)), GIVEN_BACK)
            self.assertEqual(answers([0, 3]), [1, 0])
            self.assertEqual(answers(list(OTHER)), other)
            self.assertEqual(answers([0, 0]), [1, -22])

    def test_each_list_has_a_new_object(self):
        answers(joined([begin(4), *[gate(AND, 0, 1)] * 8, *[test(15)] * 6]))
        self.assertEqual(answers(joined([begin(1), explains(1), gate(AND, 0, 0), test(1)])), [1, 0, 1, -22, 1, 0, 1, 0])


class NothingElseDone(unittest.TestCase):
    def test_prints_nothing(self):
        out, err = io.StringIO(), io.StringIO()
        with contextlib.redirect_stdout(out), contextlib.redirect_stderr(err):
            answers(list(SESSION))
        self.assertEqual((out.getvalue(), err.getvalue()), ("", ""))

    def test_prints_reads_and_imports_nothing_in_a_process_of_its_own(self):
        program = "\n".join([
            "import sys",
            "before = set(sys.modules)",
            "from faultfinder.circuit import answers",
            "watched = []",
            "sys.addaudithook(lambda event, given: watched.append(event))",
            f"same = answers({SESSION}) == {GIVEN_BACK}",
            "seen = [event for event in watched if event in ('import', 'open') or event.startswith('os.')]",
            "new = sorted(set(sys.modules) - before)",
            "sys.exit(0 if same and not seen and new == ['faultfinder', 'faultfinder.circuit'] else 3)",
        ])
        done = subprocess.run([sys.executable, "-B", "-c", program], cwd=TOP_FOLDER, capture_output=True,
                              stdin=subprocess.DEVNULL)
        self.assertEqual((done.returncode, done.stdout, done.stderr), (0, b"", b""))
