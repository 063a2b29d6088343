"""What befell each of some copies, held against their ideal."""

import random
import unittest

import oracle
import oracle_lines
from helper import Unchanging, befallen, chars, done, ideal_of_lines, lined, shown, told
from makings import drawn_copies, spoilt, text_of
from quirecopies.copies import befell

FORTY_EIGHT = "A–Z² a–z² π² χ²"
STUFF = "ABCZabz2019πχ*†J –¹²³⁴⁰(),−÷+⟨⟩|[]\nx"
MOST = 2147483647


class EachCopy(unittest.TestCase):

    def ask(self, copies, *rows):
        """rows: of each copy its lines."""
        for number, lines in enumerate(rows):
            with self.subTest(copies, number=number):
                self.assertEqual(befallen(number, *copies), lined(*lines))

    def test_one_copy(self):
        for line in ("A²", "A–Z⁸", FORTY_EIGHT, "B²(−1) A²(÷1, 1+⟨()⟩)", "A¹(−1, 1+1)"):
            self.assertEqual(befell(0, chars(line + "\n")), [0])

    def test_copies_alike(self):
        self.ask(["B⁴(−1, 2+3) A²"] * 3, [], [], [])

    def test_copies_that_lack_gatherings(self):
        self.ask(["A² C²", "B–C²"], ["~B"], ["~A"])
        self.ask(["A–D²", "B²"], [], ["~A", "~C", "~D"])
        self.ask(["C² A²", "D² B²"], ["~D", "~B"], ["~C", "~A"])
        self.ask(["D²", "C²", "A²"], ["~A", "~C"], ["~A", "~D"], ["~C", "~D"])

    def test_lacking_ones_in_the_ideals_order(self):
        self.ask(["π²", "χ² A²", "B²"], ["~B", "~χ", "~A"], ["~B", "~π"], ["~π", "~χ", "~A"])

    def test_leaves(self):
        self.ask(["A⁴(−1)", "A⁴(÷1)", "A⁴"], ["−A.1"], ["÷A.1"], [])
        self.ask(["A⁴(−1)", "A⁴(÷1)"], ["−A.1"], [])
        self.ask(["A²(÷1)", "A²(÷2)"], ["÷A.1"], ["÷A.2"])
        self.ask(["A⁴(−1, −4)", "A⁴(−1, −2)"], ["−A.4"], ["−A.2"])

    def test_gaps(self):
        self.ask(["A²(1+1)", "A²(1+1)"], [], [])
        self.ask(["A²(1+1)", "A²(1+2)"], ["+A.1 1"], ["+A.1 2"])
        self.ask(["A²(0+⟨()⟩, 2+1)", "A²(2+1)"], ["+A.0 ⟨()⟩"], [])
        self.ask(["A²(1+⟨||||||||||⟩)", "A²", "B²"], ["~B", "+A.1 ⟨||||||||||⟩"], ["~B"], ["~A"])

    def test_all_together(self):
        copies = ["C²(−1) A² Z²(÷1)", "B²(1+1) A²(÷2)", "D⁴(÷1) π² A²(−2, 2+4)"]
        self.assertEqual(ideal_of_lines(*copies), "B²(1+1) C²(−1) D⁴(÷1) π² A² Z²(÷1)")
        self.ask(copies, ["~B", "~D", "~π"], ["~C", "~D", "~π", "~Z", "÷A.2"], ["~B", "~C", "~Z", "−A.2", "+A.2 4"])

    def test_the_answer_tells_its_length_first(self):
        self.assertEqual(befell(1, chars("A–B²\nA²(−1)\n")), [8, 0x7E, 66, 10, 0x2212, 65, 46, 49, 10])

    def test_48_gatherings(self):
        self.ask(["A–Z²", "a–z²", "π²", "χ²"], ["~" + one for one in oracle.SIGNS[23:48]])

    def test_sixteen_copies(self):
        copies = ["A²"] * 15 + ["A²(1+2)"]
        for number in range(15):
            self.assertEqual(befallen(number, *copies), "")
        self.assertEqual(befallen(15, *copies), "+A.1 2\n")


class Refusals(unittest.TestCase):

    # By why there's no ideal.
    lacks = (
        ["A²", "A⁴"], ["A² B⁴", "B⁴ A²"], ["A¹(−1, 1+1)", "A¹(−1, 1+2)"], ["A²⁰(0+2, −1)", "A²⁰(0+2, −2)"], [FORTY_EIGHT, "*²"],
    )

    def test_no_such_copy(self):
        for copies in (["A²"], ["A²", "B²"], ["A²"] * 16):
            self.assertEqual(befallen(len(copies) - 1, *copies)[:1] == [-4], False)
            for number in (len(copies), len(copies) + 1, 17, 10 ** 6, MOST):
                self.assertEqual(befallen(number, *copies), [-4])

    def test_no_copies_text(self):
        for text in ("", "\n", "A²", "A", "A\n", "A²\nB", "A²\nB²", "A²\n\n", "A³\n", "A² B²\n", "A²\nA²(1+0)\n", "A²\n" * 17, "~A\n"):
            for number in (0, 1, 16, MOST):
                with self.subTest(text, number=number):
                    self.assertEqual(befell(number, chars(text)), [-6])

    def test_characters_far_outside_the_form(self):
        for char in (0, 127, 0x110000, MOST):
            self.assertEqual(befell(0, [char]), [-6])
            self.assertEqual(befell(0, [65, 0xB2, 10, char]), [-6])
        self.assertEqual(befell(MOST, [MOST] * 30000), [-6])

    def test_no_ideal(self):
        for copies in self.lacks:
            for number in (0, 1, 2, MOST):
                with self.subTest(copies, number=number):
                    self.assertEqual(befallen(number, *copies), [-1])

    def test_which_comes_first(self):
        for copies in self.lacks:
            self.assertEqual(befallen(0, *copies, "A"), [-6])
            self.assertEqual(befallen(99, *copies, "A"), [-6])
            self.assertEqual(befallen(99, *copies, "99Z²"), [-1])
        self.assertEqual(befallen(99, "A²", "99Z²"), [-4])


class DrawnCopies(unittest.TestCase):

    def drawn(self, seed, many):
        draw = random.Random(seed)
        found = 0
        while found < many:
            lines = [oracle.written(quires) for quires in drawn_copies(draw, 12)]
            book = ideal_of_lines(*lines)
            if isinstance(book, str):
                found += 1
                yield lines, book

    def test_the_lines_done_to_the_ideal_give_the_copy(self):
        for lines, book in self.drawn(50, 500):
            for number, line in enumerate(lines):
                self.assertEqual(done(book, befallen(number, *lines)), line, lines)

    def test_what_tell_gives_of_the_ideal_and_the_copy(self):
        for lines, book in self.drawn(51, 500):
            for number, line in enumerate(lines):
                self.assertEqual(befallen(number, *lines), told(book, line), lines)

    def test_none_is_moved(self):
        for lines, book in self.drawn(52, 500):
            for number in range(len(lines)):
                self.assertNotIn(">", befallen(number, *lines))

    def test_against_oracle(self):
        draw = random.Random(53)
        for number in range(1500):
            copies = drawn_copies(draw, 8)
            text = text_of(copies)
            if draw.random() < 0.2:
                text = spoilt(draw, text, STUFF)
            which = draw.choice((draw.randrange(len(copies) + 1), 0, len(copies) - 1, draw.randrange(MOST + 1)))
            self.assertEqual(shown(befell(which, chars(text))), oracle_lines.befell(which, text), (which, text))


class NothingKept(unittest.TestCase):

    calls = (
        (0, "A–C² D⁴(−1, 2+⟨()⟩)\nB² D⁴(÷2)\n"), (1, "A–C² D⁴(−1, 2+⟨()⟩)\nB² D⁴(÷2)\n"), (0, "A²\nA⁴\n"), (0, "A²\nB³\n"), (0, ""),
        (7, "A²\n"), (1, "A²(1+⟨[)⟩)\nA²(1+⟨(]⟩)\n"),
    )

    def test_what_is_handed_in_is_not_changed(self):
        for number, text in self.calls:
            given = Unchanging(chars(text))
            befell(number, given)
            self.assertEqual(list(given), chars(text))

    def test_a_second_call_answers_as_the_first_did(self):
        first = [befell(number, chars(text)) for number, text in self.calls]
        for answer in first:
            answer.append(0)
        again = [befell(number, chars(text)) + [0] for number, text in reversed(self.calls)]
        self.assertEqual(first, again[::-1])

    def test_answers_are_lists_of_ints_and_new_ones(self):
        for number, text in self.calls:
            given = chars(text)
            answer = befell(number, given)
            self.assertIs(type(answer), list)
            self.assertIsNot(answer, given)
            self.assertEqual({type(one) for one in answer}, {int})


if __name__ == "__main__":
    unittest.main()
