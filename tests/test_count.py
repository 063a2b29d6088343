"""How many lines there are of a copy's accidents."""

import random
import unittest

import oracle
import oracle_lines
from helper import Unchanging, chars, told
from makings import drawn_pair, drawn_stranger
from quirecopies.copies import count, tell

FORTY_EIGHT = "A–Z² a–z² π² χ²"


def counted(book, copy):
    return count(chars(book), chars(copy))


class Counting(unittest.TestCase):

    def test_no_lines(self):
        for line in ("A²", "A–Z⁸", FORTY_EIGHT, "π⁴ A–C⁸ χ¹(−1, 1+⟨(]⟩)", "B²(−1) A²(1+3)"):
            self.assertEqual(counted(line, line), [0])

    def test_one_line_of_each_kind(self):
        self.assertEqual(counted("A–C²", "A² C²"), [1])
        self.assertEqual(counted("A²", "A²(−1)"), [1])
        self.assertEqual(counted("A²", "A²(÷1)"), [1])
        self.assertEqual(counted("A²(−1)", "A²"), [1])
        self.assertEqual(counted("A²", "A²(1+3)"), [1])
        self.assertEqual(counted("A²", "A²(1+⟨()⟩)"), [1])
        self.assertEqual(counted("A²(1+3)", "A²"), [1])
        self.assertEqual(counted("A–B²", "B² A²"), [1])
        self.assertEqual(counted("A–C²", "A² C² B²"), [1])

    def test_many_lines_of_each_kind(self):
        self.assertEqual(counted(FORTY_EIGHT, "K²"), [47])
        self.assertEqual(counted("A²⁰", "A²⁰(−1, −2, −3, −4, −5)"), [5])
        self.assertEqual(counted("A²⁰(÷1, ÷2, ÷3, ÷4, ÷5, ÷6)", "A²⁰"), [6])
        self.assertEqual(counted("A⁴", "A⁴(0+1, −1, 1+2, ÷2, 2+3, 3+4, −4, 4+5)"), [8])
        self.assertEqual(counted(FORTY_EIGHT, " ".join(one + "²" for one in
                                                       reversed(oracle.SIGNS[:48]))), [47])

    def test_lines_of_every_kind(self):
        self.assertEqual(counted("A–F⁴", "D⁴(−1) F⁴(0+1) B⁴ C⁴(÷4)"), [7])
        self.assertEqual(counted("π² A⁴(−1, −4) B⁴(1+⟨()⟩) C–D⁴ χ²", "C⁴ B⁴(1+⟨(]⟩, ÷2) A⁴(÷1)"), [9])

    def test_a_text_of_ten_characters(self):
        self.assertEqual(len(told("A²", "A²(−1, 1+⟨()⟩)")), 15)
        self.assertEqual(tell(chars("A²"), chars("A²(1+⟨()⟩)"))[0], 10)
        self.assertEqual(counted("A²", "A²(1+⟨()⟩)"), [1])
        self.assertEqual(counted("A⁴", "A⁴(−1, −2)"), [2])


class Refusals(unittest.TestCase):

    bad = ("", "A", "A³", "A²\n", " A²", "A² B²", "A² A²", "A²(−3)", "A²(−1, −2)", "J²", "0A²", "A²(1+0)", "~A\n")

    def test_no_formula(self):
        for text in self.bad:
            with self.subTest(text):
                self.assertEqual(counted(text, "A²"), [-6])
                self.assertEqual(counted("A²", text), [-6])
                self.assertEqual(counted(text, text), [-6])
        for char in (0, 10, 0x110000, 2147483647):
            self.assertEqual(count([char], [65, 0xB2]), [-6])
            self.assertEqual(count([65, 0xB2], [char]), [-6])

    def test_not_of_the_book(self):
        for book, copy in (("A²", "B²"), ("A–C²", "A–D²"), ("A–C²", "2A²"), ("π²", "χ²"), ("A²", "A⁴"), ("A² B⁴", "A⁴ B²")):
            self.assertEqual(counted(book, copy), [-4])

    def test_no_formula_before_not_of_the_book(self):
        for text in self.bad:
            self.assertEqual(counted(text, "99Z¹²"), [-6])
        self.assertEqual(counted("A²", "B² C"), [-6])
        self.assertEqual(counted("A²", "A⁴ B²("), [-6])


class DrawnPairs(unittest.TestCase):

    def test_as_many_as_tell_has_line_feeds(self):
        draw = random.Random(40)
        for number in range(1500):
            book, copy = drawn_pair(draw, draw.choice((6, 6, 6, 20)))
            if draw.random() < 0.1:
                copy = drawn_stranger(draw, copy)
            texts = oracle.written(book), oracle.written(copy)
            answer = told(*texts)
            self.assertEqual(counted(*texts), [answer.count("\n")] if isinstance(answer, str) else answer, texts)

    def test_as_many_as_the_oracle_has(self):
        draw = random.Random(41)
        for number in range(500):
            texts = [oracle.written(quires) for quires in drawn_pair(draw)]
            self.assertEqual(counted(*texts), [len(oracle_lines.tell(*texts).splitlines())], texts)


class NothingKept(unittest.TestCase):

    pairs = (
        ("A–C²", "C² A²(−1)"), ("A²", "A²"), ("A²", "B²"), ("A²", "A³"), ("", ""), ("A²(1+1)", "A²(1+⟨()⟩)"), ("A⁴(÷1)", "A⁴"),
    )

    def test_what_is_handed_in_is_not_changed(self):
        for book, copy in self.pairs:
            t, u = Unchanging(chars(book)), Unchanging(chars(copy))
            count(t, u)
            self.assertEqual((list(t), list(u)), (chars(book), chars(copy)))

    def test_a_second_call_answers_as_the_first_did(self):
        first = [counted(*pair) for pair in self.pairs]
        for answer in first:
            answer.append(0)
        again = [counted(*pair) + [0] for pair in reversed(self.pairs)]
        self.assertEqual(first, again[::-1])

    def test_answers_are_lists_of_one_int(self):
        for pair in self.pairs:
            answer = counted(*pair)
            self.assertIs(type(answer), list)
            self.assertEqual([type(number) for number in answer], [int])


if __name__ == "__main__":
    unittest.main()
