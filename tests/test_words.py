"""The words of a formula's gatherings, and what a gap's telling stands for."""

import unittest

import oracle
from helper import chars
from quirecopies.cursor import Cursor, read_put_in
from quirecopies.formula_reader import read_formula
from quirecopies.quires import has_good_word, word


def words(formula):
    quires = read_formula(chars(formula), 0, len(formula))
    return ["".join(chr(sign) for sign in word(quire)) for quire in quires]


class Words(unittest.TestCase):

    def test_whole(self):
        self.assertEqual(words("A¹ B² C⁴ D⁶"), ["|", "()", "(())", "((()))"])
        self.assertEqual(words("A–B²"), ["()", "()"])

    def test_lost_and_cut(self):
        self.assertEqual(words("A²(−1)"), ["|"])
        self.assertEqual(words("A²(−2)"), ["|"])
        self.assertEqual(words("A²(÷1)"), ["[)"])
        self.assertEqual(words("A²(÷2)"), ["(]"])
        self.assertEqual(words("A⁴(−1)"), ["()|"])
        self.assertEqual(words("A⁴(−1, −4)"), ["()"])
        self.assertEqual(words("A⁶(÷1, −2, ÷4)"), ["[(]|)"])

    def test_put_in(self):
        self.assertEqual(words("A⁴(0+1, −1, ÷2)"), ["|[)|"])
        self.assertEqual(words("A²(0+⟨[)⟩, 1+2, 2+⟨(|)⟩)"), ["[)(||)(|)"])
        self.assertEqual(words("A¹(−1, 1+1)"), ["|"])
        self.assertEqual(words("A¹(0+⟨()⟩, 1+1)"), ["()||"])

    def test_against_oracle(self):
        for formula in ("A²⁰(0+1, −3, ÷4, −18)", "A¹²(÷1, −3, 5+⟨(]⟩, ÷11)", "A⁸(÷8) B¹(1+3)"):
            self.assertEqual(words(formula), [oracle.word(quire) for quire in oracle.read(formula)])

    def test_each_word_is_a_gathering(self):
        for formula in ("A²⁰(0+1, −3, ÷4, −18)", "A⁶(÷1, −2, ÷4)", "A⁴(−1, 1+⟨[(])⟩)"):
            for signs in words(formula):
                self.assertTrue(oracle.paired(signs))

    def test_stubs_alone_are_no_good_word(self):
        quire = read_formula(chars("A²(÷1)"), 0, 6)[0]
        self.assertTrue(has_good_word(quire))
        quire.leaves[1] = quire.leaves[0]
        self.assertFalse(has_good_word(quire))


class PutIn(unittest.TestCase):

    def told(self, text):
        signs = read_put_in(Cursor(chars(text), 0, len(text)))
        return None if signs is None else "".join(chr(sign) for sign in signs)

    def test_by_number(self):
        self.assertEqual([self.told(str(number)) for number in (0, 1, 9, 10)], ["", "|", "|||||||||", None])

    def test_by_signs(self):
        self.assertEqual(self.told("⟨(|]⟩"), "(|]")
        self.assertEqual(self.told("⟨" + "|" * 10 + "⟩"), "|" * 10)
        for text in ("⟨⟩", "⟨|⟩", "⟨|||||||||⟩", "⟨[]⟩", "⟨(⟩", "⟨" + "|" * 22 + "⟩"):
            self.assertIsNone(self.told(text), text)


if __name__ == "__main__":
    unittest.main()
