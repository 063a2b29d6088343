"""What the document promises over the whole program: its interface, its closing words, and E1 to E5 together."""

import contextlib
import inspect
import io
import random
import sys
import unittest

import oracle
from helper import Unchanging, befallen, chars, done, ideal_of_lines, lined, told
from makings import drawn_copies, drawn_lines, drawn_pair
from quirecopies import copies
from quirecopies.copies import befell, count, do, ideal, tell

FORTY_EIGHT = "A–Z² a–z² π² χ²"
BOOK = "π² A–C⁸ D⁴(0+1, −1, 2+⟨[|)⟩) 2E¹"
COPY = "D⁴(÷1) B⁸(1+1) A⁸ π²(−2)"
CALLS = (
    (ideal, (BOOK + "\nA⁸ D⁴\n",)), (ideal, ("A²\nA⁴\n",)), (ideal, ("x",)), (tell, (BOOK, COPY)), (tell, (COPY, BOOK)), (tell, (BOOK, "x")),
    (do, (BOOK, "~A\n>D\n+B.0 3\n")), (do, (BOOK, "~A\n>A\n")), (do, ("x", "")), (count, (BOOK, COPY)), (count, (COPY, BOOK)),
    (befell, (1, BOOK + "\nA⁸ D⁴\n")), (befell, (2, BOOK + "\nA⁸ D⁴\n")), (befell, (0, "A²\nA⁴\n")), (befell, (0, "x")),
)


def handed(arguments):
    return [argument if isinstance(argument, int) else Unchanging(chars(argument)) for argument in arguments]


class Interface(unittest.TestCase):

    def test_names_and_arguments(self):
        asked = {"ideal": ["t"], "tell": ["t", "u"], "do": ["t", "u"], "count": ["t", "u"], "befell": ["k", "t"]}
        for name, arguments in asked.items():
            parameters = inspect.signature(getattr(copies, name)).parameters.values()
            self.assertEqual([one.name for one in parameters], arguments)
            for one in parameters:
                self.assertIs(one.default, one.empty)
                self.assertIs(one.kind, one.POSITIONAL_OR_KEYWORD)

    def test_refusals_are_as_long_as_told(self):
        lengths = {
            (ideal, -6): 2, (ideal, -1): 4, (tell, -6): 1, (tell, -4): 1, (do, -6): 1, (do, -3): 2, (count, -6): 1, (count, -4): 1,
            (befell, -6): 1, (befell, -1): 1, (befell, -4): 1,
        }
        met = set()
        for call, arguments in CALLS + ((count, ("", BOOK)),):
            answer = call(*handed(arguments))
            if answer[0] < 0:
                met.add((call, answer[0]))
                self.assertEqual(len(answer), lengths[(call, answer[0])], (call, arguments))
            else:
                self.assertEqual(len(answer), 1 if call is count else answer[0] + 1)
        self.assertEqual(met, set(lengths))

    def test_nothing_is_printed_or_read(self):
        out, err, source = io.StringIO(), io.StringIO(), io.StringIO("A²\n")
        before, sys.stdin = sys.stdin, source
        try:
            with contextlib.redirect_stdout(out), contextlib.redirect_stderr(err):
                for call, arguments in CALLS:
                    call(*handed(arguments))
        finally:
            sys.stdin = before
        self.assertEqual((out.getvalue(), err.getvalue(), source.tell()), ("", "", 0))

    def test_as_if_for_the_first_time_whatever_was_called_before(self):
        first = [call(*handed(arguments)) for call, arguments in CALLS]
        draw = random.Random(60)
        for time in range(200):
            which = draw.randrange(len(CALLS))
            call, arguments = CALLS[which]
            answer = call(*handed(arguments))
            self.assertEqual(answer, first[which])
            # What is given back is the caller's own.
            answer.clear()

    def test_long_inputs_are_gone_through_by_loops(self):
        book, many = chars(FORTY_EIGHT), 30000
        signs = [40] * (many // 2 - 10) + [41] * (many // 2 - 10)
        backwards = chars(" ".join(one + "²" for one in reversed(oracle.SIGNS[:48])))
        calls = (
            (ideal, ([40] * many,)), (ideal, (chars("A²(1+⟨") + signs,)), (ideal, (chars(lined(*[FORTY_EIGHT] * 16)),)),
            (tell, (book, backwards)), (tell, (chars("A²(1+⟨") + signs, book)), (count, (book, backwards)),
            (do, (book, chars(">A χ\n" * (many // 5)))), (do, (book, chars("+A.1 ⟨") + signs)), (do, (book, [10] * many)),
            (befell, (15, chars(lined(*[FORTY_EIGHT] * 16)))), (befell, (0, [40] * many)),
        )
        limit = sys.getrecursionlimit()
        sys.setrecursionlimit(len(inspect.stack()) + 60)
        try:
            answers = [call(*arguments)[0] for call, arguments in calls]
        finally:
            sys.setrecursionlimit(limit)
        self.assertEqual([answer for answer in answers if answer < 0], [-6, -6, -6, -3, -3, -6])


class PromisesTogether(unittest.TestCase):

    def drawn(self, seed, many):
        draw = random.Random(seed)
        found = 0
        while found < many:
            quires = drawn_copies(draw, draw.choice((4, 8, 16)))
            lines = [oracle.written(row) for row in quires]
            book = ideal_of_lines(*lines)
            if isinstance(book, str):
                found += 1
                yield draw, quires, lines, book

    def test_e1(self):
        for draw, quires, lines, book in self.drawn(61, 300):
            self.assertIsNone(oracle.formula_fault(book))
            mixed = draw.sample(lines, len(lines))
            self.assertEqual(ideal_of_lines(*mixed), book)
            whole = {one["signature"]: one for one in oracle.read(book)}
            order = list(whole)
            for row in quires:
                places = [order.index(one["signature"]) for one in row]
                self.assertEqual(places, sorted(places))
            for signature, one in whole.items():
                held = [other for row in quires for other in row if other["signature"] == signature]
                for leaf in range(1, one["size"] + 1):
                    if leaf not in one["states"]:
                        self.assertTrue(any(leaf not in other["states"] for other in held))
                for gap, signs in one["put"].items():
                    self.assertTrue(any(other["put"].get(gap) == signs for other in held))

    def test_e2(self):
        asked = 0
        for draw, quires, lines, book in self.drawn(62, 400):
            for number, line in enumerate(lines):
                self.assertEqual(ideal_of_lines(*[line] * draw.randrange(1, 17)), line)
                if "+" not in befallen(number, *lines):
                    asked += 1
                    self.assertEqual(ideal_of_lines(book, line), book)
                    self.assertEqual(ideal_of_lines(line, book), book)
        self.assertGreater(asked, 300)

    def test_e3(self):
        for draw, quires, lines, book in self.drawn(63, 300):
            self.assertEqual(told(book, book), "")
            for number, line in enumerate(lines):
                self.assertEqual(done(book, told(book, line)), line)
                self.assertEqual(done(book, befallen(number, *lines)), line)

    def test_e4(self):
        draw = random.Random(64)
        for time in range(300):
            book, copy = drawn_pair(draw, 7)
            order = [one["signature"] for one in book]
            row = [order.index(one["signature"]) for one in copy]
            lines = told(oracle.written(book), oracle.written(copy)).splitlines()
            moved = [line for line in lines if line[0] == ">"]
            longest = max(len(left) for left in rising_rows(row))
            self.assertEqual(len(row) - len(moved), longest)
            self.assertEqual(count(chars(oracle.written(book)), chars(oracle.written(copy))), [len(lines)])

    def test_e5(self):
        draw = random.Random(65)
        asked = 0
        for time in range(600):
            book = drawn_pair(draw, 5)[0]
            text = oracle.written(book)
            lines = drawn_lines(draw, book, draw.randrange(1, 6)).splitlines(keepends=True)
            whole = done(text, "".join(lines))
            one_by_one = text
            for line in lines:
                one_by_one = done(one_by_one, line)
                if not isinstance(one_by_one, str):
                    break
            else:
                asked += 1
                self.assertEqual(whole, one_by_one)
        self.assertGreater(asked, 150)


def rising_rows(row):
    """Every rising row that taking out leaves."""
    rows = [[]]
    for number in row:
        rows += [left + [number] for left in rows if not left or left[-1] < number]
    return rows


if __name__ == "__main__":
    unittest.main()
