"""What holds of all seven calls alike."""

import ast
import contextlib
import inspect
import io
import pathlib
import subprocess
import sys
import time
import unittest

from lutesounds import desk
from tests.helper import BAR, FULL_LUTE, GREAT_POWERS, KINDS, as_bytes, equal_frets, instrument, piece

UNISON = [0, 0, 0, 0, 1]
LUTE = as_bytes(instrument(equal_frets(5), ["2", "2^-1 3", "1"], ["1"]))
RAISED = as_bytes(instrument(equal_frets(5), ["2^2", "3", "2"], ["2"]))
SMALL = as_bytes(instrument())
PIECE = as_bytes(piece("french", [(8, {1: 0, 2: 3, 4: 0}), BAR, (4, {3: 0}), (16, {1: 1})]))
WITHOUT = as_bytes(piece("german", [(8, {}), BAR]))
WRONG = as_bytes("lute")

NAMES = {
    "fits": ["i", "t"], "note": ["ring", "k", "i", "t"], "at": ["ring", "n", "i", "t"], "pure": ["ring", "i", "t", "x"],
    "span": ["i", "t"], "score": ["ring", "i", "t"], "same": ["ring", "i", "t", "j", "u", "x"],
}


def calls(i, t, j, u, x):
    """Calls of all seven, each as a name and its arguments, by all ways of ringing and one that is none."""
    found = [("fits", [i, t]), ("span", [i, t])]
    for ring in range(4):
        found += [("note", [ring, 1, i, t]), ("note", [ring, 99999, i, t]), ("at", [ring, 9, i, t]),
                  ("pure", [ring, i, t, x]), ("score", [ring, i, t]), ("same", [ring, i, t, j, u, x])]
    return found


def every_call():
    found = []
    for i in (LUTE, SMALL, WRONG):
        for t in (PIECE, WITHOUT, WRONG):
            for j, u in ((LUTE, PIECE), (RAISED, PIECE), (SMALL, WITHOUT), (WRONG, PIECE), (LUTE, WRONG)):
                for x in (UNISON, [1, 0, 0, 0, 1], [0, 0, 0, 0, 2]):
                    found += calls(i, t, j, u, x)
    return found


def answer_of(call):
    return getattr(desk, call[0])(*call[1])


class Interface(unittest.TestCase):
    def test_names_and_order_of_arguments(self):
        for name, arguments in NAMES.items():
            signature = inspect.signature(getattr(desk, name))
            self.assertEqual(list(signature.parameters), arguments)
            for parameter in signature.parameters.values():
                self.assertEqual(parameter.kind, inspect.Parameter.POSITIONAL_OR_KEYWORD)
                self.assertIs(parameter.default, inspect.Parameter.empty)

    def test_by_their_names(self):
        for name, arguments in calls(LUTE, PIECE, RAISED, PIECE, [1, 0, 0, 0, 1]):
            self.assertEqual(getattr(desk, name)(**dict(zip(NAMES[name], arguments, strict=True))),
                             getattr(desk, name)(*arguments))

    def test_answers_are_lists_of_whole_numbers(self):
        for call in every_call():
            answer = answer_of(call)
            self.assertIs(type(answer), list)
            self.assertEqual({type(number) for number in answer}, {int}, call)

    def test_how_many_numbers_are_answered(self):
        for name, arguments in every_call():
            answer = getattr(desk, name)(*arguments)
            if answer[0] < 0:
                self.assertEqual(len(answer), 3 if name == "fits" and answer[0] == -3 else 1)
            else:
                told = {"fits": 1, "note": 10, "at": 1 + answer[0], "pure": 1, "span": 2, "score": 1 + answer[0],
                        "same": 1}
                self.assertEqual(len(answer), told[name])

    def test_refusals_of_each_call(self):
        every = {-2, -6, -8, -3}
        refusals = {"fits": every, "note": every | {-1, -4}, "at": every | {-1}, "pure": every | {-1},
                    "span": every | {-5}, "score": every | {-1}, "same": every | {-1, -9, -10}}
        seen = {name: {-2} for name in NAMES}
        for name, arguments in every_call():
            answer = getattr(desk, name)(*arguments)
            if answer[0] < 0:
                seen[name].add(answer[0])
        self.assertEqual(seen, refusals)


class NothingKept(unittest.TestCase):
    def test_what_is_handed_in_stays(self):
        for name, arguments in every_call():
            mine = [list(value) if isinstance(value, list) else value for value in arguments]
            getattr(desk, name)(*mine)
            self.assertEqual(mine, arguments)

    def test_lists_that_are_handed_in_twice(self):
        for text in (LUTE, PIECE, WITHOUT, WRONG, UNISON, []):
            mine = list(text)
            for name, arguments in calls(mine, mine, mine, mine, mine[:8]):
                alike = [list(value) if isinstance(value, list) else value for value in arguments]
                self.assertEqual(getattr(desk, name)(*arguments), getattr(desk, name)(*alike))
                self.assertEqual(mine, text)
        i = list(LUTE)
        t = list(PIECE)
        x = list(UNISON)
        for ring in range(3):
            self.assertEqual(desk.same(ring, i, t, i, t, x), [1])
            self.assertEqual(desk.same(ring, i, t, i, t, [1, 0, 0, 0, 1]), [0])
        self.assertEqual((i, t, x), (LUTE, PIECE, UNISON))

    def test_a_second_call_answers_as_the_first(self):
        first = [answer_of(call) for call in every_call()]
        second = [answer_of(call) for call in reversed(every_call())]
        self.assertEqual(first, list(reversed(second)))

    def test_an_answer_is_the_callers_own(self):
        for call in calls(LUTE, PIECE, RAISED, PIECE, [1, 0, 0, 0, 1]):
            answer = answer_of(call)
            before = list(answer)
            answer[0] = 99
            answer.append(7)
            self.assertEqual(answer_of(call), before)

    def test_nothing_is_printed_read_or_imported(self):
        out = io.StringIO()
        with contextlib.redirect_stdout(out), contextlib.redirect_stderr(out):
            for call in every_call():
                answer_of(call)
        self.assertEqual(out.getvalue(), "")
        root = pathlib.Path(desk.__file__).resolve().parent.parent
        program = ("import sys; before = set(sys.modules); from lutesounds import desk; "
                   "print(sorted(n for n in set(sys.modules) - before if not n.startswith('lutesounds')))")
        done = subprocess.run([sys.executable, "-B", "-c", program], cwd=root, capture_output=True, text=True,
                              check=True)
        self.assertEqual(ast.literal_eval(done.stdout), [])


class InGoodTime(unittest.TestCase):
    def assert_in_time(self, i, t, x):
        for call in calls(i, t, i, t, x):
            start = time.process_time()
            answer_of(call)
            self.assertLess(time.process_time() - start, 5, call[0])

    def test_most_notes(self):
        i = as_bytes(FULL_LUTE)
        for kind in KINDS:
            lines = [(96, {c: (c * k) % 16 if c < 7 else 0 for c in range(1, 15)}) for k in range(512)]
            self.assert_in_time(i, as_bytes(piece(kind, lines)), UNISON)

    def test_lengths_and_bars_by_turns(self):
        i = as_bytes(FULL_LUTE)
        for kind in KINDS:
            lines = [BAR if k % 3 == 2 else ((24, 96)[k % 2], {c: 15 if c < 7 else 0 for c in range(1 + k % 2, 15, 2)})
                     for k in range(512)]
            self.assert_in_time(i, as_bytes(piece(kind, lines)), [1, 0, 0, 0, 1])

    def test_intervals_of_great_powers(self):
        i = as_bytes(GREAT_POWERS)
        lines = [(96, {c: (c * k) % 16 if c < 7 else 0 for c in range(1, 15)}) for k in range(512)]
        self.assertEqual(desk.fits(i, as_bytes(piece("french", lines))), [7168])
        self.assert_in_time(i, as_bytes(piece("french", lines)), [97, -89, 83, -79, 23])

    def test_texts_that_are_none(self):
        for t in ([124, 10] * 32768, as_bytes("french\n") + [124, 10] * 32764, as_bytes("german\nw aaa") + [97] * 65000,
                  as_bytes("italian\nq ") + as_bytes("......\n ") * 8000, [255] * 65536):
            self.assertEqual(desk.fits(LUTE, t), [-8])
            self.assert_in_time(LUTE, t, UNISON)
        for i in (as_bytes("length ") + [57] * 4089, as_bytes("length 60000\ncourse 2^") + [57] * 4000,
                  as_bytes("length 60000\n" + "course 2^99/2\n" * 200),
                  as_bytes("length 60000\nfret ") + [50, 32] * 2000):
            self.assertEqual(desk.fits(i, PIECE), [-6])
            self.assert_in_time(i, PIECE, UNISON)
