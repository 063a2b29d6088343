"""The ideal book: what it has, its order, and why there's none."""

import itertools
import unittest

from helper import Unchanging, chars, ideal_of_lines
from quirecopies.copies import ideal

FORTY_EIGHT = "A–Z² a–z² π² χ²"


class WhatItHas(unittest.TestCase):

    def test_one_copy(self):
        for line in ("A²", "A–Z⁸", "π⁴ A–C⁸ χ¹(−1, 1+⟨(]⟩)", "2A²⁰(÷20) A²⁰(0+1)", "B² A²"):
            with self.subTest(line):
                self.assertEqual(ideal_of_lines(line), line)

    def test_the_answer_tells_its_length_first(self):
        self.assertEqual(ideal(chars("π²\n")), [2, 0x3C0, 0xB2])
        self.assertEqual(ideal(chars("A² B²(−1)\n")), [9, 65, 0xB2, 32, 66, 0xB2, 40, 0x2212, 49, 41])
        self.assertEqual(
            ideal(chars("2x¹⁰(0+⟨[)⟩, ÷3)\n")),
            [16, 50, 120, 0xB9, 0x2070, 40, 48, 43, 0x27E8, 91, 41, 0x27E9, 44, 32, 0xF7, 51, 41])
        self.assertEqual(ideal(chars("A–B²\n")), [4, 65, 0x2013, 66, 0xB2])

    def test_copies_alike(self):
        for line in ("A²", "B⁴(−1, 2+3) A² C–D²", "χ²(1+⟨()⟩) *² †²"):
            for many in (2, 3, 16):
                with self.subTest(line, many=many):
                    self.assertEqual(ideal_of_lines(*[line] * many), line)

    def test_copies_that_lack_gatherings(self):
        self.assertEqual(ideal_of_lines("A² C²", "B–C²"), "A–C²")
        self.assertEqual(ideal_of_lines("A–D²", "B²"), "A–D²")
        self.assertEqual(ideal_of_lines("D²", "C²", "A²", "B²"), "A–D²")
        self.assertEqual(ideal_of_lines("A² D⁴", "B²(−1) D⁴", "χ¹ D⁴"), "A² B²(−1) χ¹ D⁴")

    def test_leaves(self):
        self.assertEqual(ideal_of_lines("A⁴(−1)", "A⁴"), "A⁴")
        self.assertEqual(ideal_of_lines("A⁴(÷1)", "A⁴"), "A⁴")
        self.assertEqual(ideal_of_lines("A⁴(÷1)", "A⁴(−1)"), "A⁴(÷1)")
        self.assertEqual(ideal_of_lines("A⁴(−1)", "A⁴(÷1)"), "A⁴(÷1)")
        self.assertEqual(ideal_of_lines("A⁴(−1)", "A⁴(−1)"), "A⁴(−1)")
        self.assertEqual(ideal_of_lines("A⁴(÷1)", "A⁴(÷1)"), "A⁴(÷1)")
        self.assertEqual(ideal_of_lines("A⁴(−1, −4)", "A⁴(−1, −2)", "A⁴(−1, −3)"), "A⁴(−1)")
        self.assertEqual(ideal_of_lines("A⁴(−1, −4)", "A⁴(÷4)", "A⁴(−4)"), "A⁴(÷4)")
        self.assertEqual(ideal_of_lines("A²(÷1)", "A²(÷2)"), "A²")
        self.assertEqual(ideal_of_lines("A²(−1)", "A²(−2)"), "A²")
        self.assertEqual(ideal_of_lines("A¹(−1, 1+1)", "A¹(1+1)"), "A¹(1+1)")

    def test_leaves_of_copies_that_lack_the_gathering_count_for_nothing(self):
        self.assertEqual(ideal_of_lines("A²(−1)", "B²"), "A²(−1) B²")
        self.assertEqual(ideal_of_lines("A²(÷1) B²", "B²(−1)", "A²(−1)"), "A²(÷1) B²")

    def test_gaps(self):
        self.assertEqual(ideal_of_lines("A²(1+1)", "A²(1+1)"), "A²(1+1)")
        self.assertEqual(ideal_of_lines("A²(1+⟨(]⟩)", "A²(1+⟨(]⟩)", "B²"), "A²(1+⟨(]⟩) B²")
        self.assertEqual(ideal_of_lines("A²(1+1)", "A²(1+2)"), "A²")
        self.assertEqual(ideal_of_lines("A²(1+1)", "A²"), "A²")
        self.assertEqual(ideal_of_lines("A²", "A²(1+1)"), "A²")
        self.assertEqual(ideal_of_lines("A²(1+1)", "A²(1+1)", "A²"), "A²")
        self.assertEqual(ideal_of_lines("A²(1+⟨()⟩)", "A²(1+⟨[)⟩)"), "A²")
        self.assertEqual(ideal_of_lines("A²(1+1)", "A²(2+1)"), "A²")
        self.assertEqual(ideal_of_lines("A²(0+1, 2+3)", "A²(0+2, 2+3)"), "A²(2+3)")
        self.assertEqual(ideal_of_lines("A²(0+1, −1, 2+3)", "A²(0+1, 1+4, ÷2)"), "A²(0+1)")

    def test_what_is_put_in_is_told_by_number_or_signs(self):
        for told in ("1", "9", "⟨||||||||||⟩", "⟨()⟩", "⟨|()⟩", "⟨[)(]⟩"):
            with self.subTest(told):
                self.assertEqual(ideal_of_lines(f"A⁴(3+{told})", f"A⁴(÷1, 3+{told})"), f"A⁴(3+{told})")

    def test_21_places(self):
        self.assertEqual(ideal_of_lines("A²⁰(−1, 3+1)", "A²⁰(−2, 3+1)"), "A²⁰(3+1)")

    def test_48_gatherings(self):
        self.assertEqual(ideal_of_lines("A–Z²", "a–z²", "π²", "χ²"), FORTY_EIGHT)


class Items(unittest.TestCase):

    def test_runs_that_become_one_item(self):
        self.assertEqual(ideal_of_lines("A²", "B²"), "A–B²")
        self.assertEqual(ideal_of_lines("A²(−1) B² C²(1+1)", "A² C²"), "A–C²")
        self.assertEqual(ideal_of_lines("Z²", "2A²"), "Z–2A²")
        self.assertEqual(ideal_of_lines("z²", "2a²"), "z–2a²")
        self.assertEqual(ideal_of_lines("98X–98Y²", "98Z²", "99A²"), "98X–99A²")
        self.assertEqual(ideal_of_lines("H–I²", "K–L²", "T²", "V²", "X²"), "H–L² T–X²")
        self.assertEqual(ideal_of_lines("A–Z²", "2A–2Z²", "3A–3B²"), "A–3B²")

    def test_runs_that_do_not(self):
        self.assertEqual(ideal_of_lines("A²", "B⁴"), "A² B⁴")
        self.assertEqual(ideal_of_lines("A²", "B²(−1)"), "A² B²(−1)")
        self.assertEqual(ideal_of_lines("A²(÷1)", "B²"), "A²(÷1) B²")
        self.assertEqual(ideal_of_lines("A²(0+1)", "B²(0+1)"), "A²(0+1) B²(0+1)")
        self.assertEqual(ideal_of_lines("A²", "C²"), "A² C²")
        self.assertEqual(ideal_of_lines("π²", "χ²", "*²", "†²"), "π² χ² *² †²")
        self.assertEqual(ideal_of_lines("π²", "2π²"), "π² 2π²")
        self.assertEqual(ideal_of_lines("Z²", "a²"), "Z² a²")
        self.assertEqual(ideal_of_lines("z²", "π²"), "z² π²")
        self.assertEqual(ideal_of_lines("99Z²", "99a²"), "99Z² 99a²")
        self.assertEqual(ideal_of_lines("Z²", "2a²"), "Z² 2a²")
        self.assertEqual(ideal_of_lines("B² A²"), "B² A²")
        self.assertEqual(ideal_of_lines("A² B²(−1) C²", "A² B²(−1) C²"), "A² B²(−1) C²")

    def test_runs_end_where_something_differs(self):
        self.assertEqual(ideal_of_lines("A–B²", "C–D⁴", "E²(−1)", "F–G²"), "A–B² C–D⁴ E²(−1) F–G²")


class Order(unittest.TestCase):

    def test_least_signature_first_where_free(self):
        self.assertEqual(ideal_of_lines("B²", "A²"), "A–B²")
        self.assertEqual(ideal_of_lines("2A²", "†⁴", "*⁴", "χ⁴", "π⁴", "a²", "Z⁴"), "Z⁴ a² π⁴ χ⁴ *⁴ †⁴ 2A²")
        self.assertEqual(ideal_of_lines("10A²", "9†²", "99A²"), "9†² 10A² 99A²")

    def test_before_another_in_some_copy(self):
        self.assertEqual(ideal_of_lines("B² A²", "C²"), "B² A² C²")
        self.assertEqual(ideal_of_lines("C² A²", "B²"), "B–C² A²")
        self.assertEqual(ideal_of_lines("C² A²", "C² B²"), "C² A–B²")
        self.assertEqual(ideal_of_lines("C² A²", "B² A²"), "B–C² A²")
        self.assertEqual(ideal_of_lines("π² A²", "B²"), "B² π² A²")

    def test_not_directly_before(self):
        self.assertEqual(ideal_of_lines("C² π² A²", "π² B²"), "C² π² A–B²")
        self.assertEqual(ideal_of_lines("D² B² A²", "C² A²"), "C–D² B² A²")

    def test_in_many_steps(self):
        self.assertEqual(ideal_of_lines("D² C²", "C² B²", "B² A²"), "D² C² B² A²")
        self.assertEqual(ideal_of_lines("B² A²", "D² C²", "C² B²"), "D² C² B² A²")
        letters = "ZYXVTSRQPONMLKI"
        lines = [f"{letters[k]}² {letters[k + 1]}²" for k in range(14)]
        self.assertEqual(ideal_of_lines(*lines), " ".join(letter + "²" for letter in letters))

    def test_free_ones_between(self):
        self.assertEqual(ideal_of_lines("E² A²", "D² B²", "C²"), "C–D² B² E² A²")
        self.assertEqual(ideal_of_lines("A² D²", "C² B²"), "A² C² B² D²")

    def test_a_gathering_in_the_wrong_place(self):
        self.assertEqual(ideal_of_lines("A–B² D² C²", "A–C²"), "A–B² D² C²")


class NoIdeal(unittest.TestCase):

    def test_different_sizes(self):
        self.assertEqual(ideal_of_lines("A²", "A⁴"), [-1, 1, 0, 1])
        self.assertEqual(ideal_of_lines("A²", "B²", "A¹"), [-1, 1, 0, 2])
        self.assertEqual(ideal_of_lines("C²", "A–C²", "C²", "B⁴"), [-1, 1, 1, 3])
        self.assertEqual(ideal_of_lines(*["A²"] * 15, "A⁴"), [-1, 1, 0, 15])
        self.assertEqual(ideal_of_lines(*["A²"] * 14, "B²", "A–B⁴"), [-1, 1, 0, 15])
        self.assertEqual(ideal_of_lines(*["A²"] * 14, "B²", "B⁴"), [-1, 1, 14, 15])

    def test_first_two_copies_of_different_sizes(self):
        self.assertEqual(ideal_of_lines("A²", "B²", "A⁴", "B⁴"), [-1, 1, 0, 2])
        self.assertEqual(ideal_of_lines("A²", "B²", "B⁴", "A⁴"), [-1, 1, 0, 3])
        self.assertEqual(ideal_of_lines("A–B²", "B⁴", "A⁴"), [-1, 1, 0, 1])
        self.assertEqual(ideal_of_lines("A–B²", "A⁴", "B⁴"), [-1, 1, 0, 1])
        self.assertEqual(ideal_of_lines("C²", "A²", "A⁴", "A⁶"), [-1, 1, 1, 2])
        self.assertEqual(ideal_of_lines("C²", "B²", "A² D²", "A⁴", "B⁴"), [-1, 1, 1, 4])

    def test_a_gathering_before_itself(self):
        self.assertEqual(ideal_of_lines("A² B⁴", "B⁴ A²"), [-1, 2, 0, 0])
        self.assertEqual(ideal_of_lines("A–B²", "B–C²", "C² A²"), [-1, 2, 0, 0])
        self.assertEqual(ideal_of_lines("π²", "A–B² C⁴", "C⁴ π² A²"), [-1, 2, 0, 0])
        self.assertEqual(ideal_of_lines("π² A–B²", "A–B² χ²", "B² A²"), [-1, 2, 0, 0])
        many = [f"{one}² {two}² {three}²" for one, two, three in ("AEC", "CGB", "BIA")]
        self.assertEqual(ideal_of_lines(*many), [-1, 2, 0, 0])

    def test_more_than_21_places(self):
        self.assertEqual(ideal_of_lines("A²⁰(0+2, −1)", "A²⁰(0+2, −2)"), [-1, 3, 0, 0])
        self.assertEqual(ideal_of_lines("A²⁰(0+1, −1, 20+1)", "A²⁰(0+1, −2, 20+1)"), [-1, 3, 0, 0])
        self.assertEqual(ideal_of_lines("B²", "C² A²⁰(0+2, −1)", "A²⁰(0+2, −2)"), [-1, 3, 0, 0])
        self.assertEqual(ideal_of_lines("A²⁰(0+2, −1)", "A²⁰(0+2, −1)"), "A²⁰(0+2, −1)")
        self.assertEqual(ideal_of_lines("A²⁰(0+2, −1)", "A²⁰(0+2, −1, −2)"), "A²⁰(0+2, −1)")

    def test_no_leaf(self):
        self.assertEqual(ideal_of_lines("A¹(−1, 1+1)", "A¹(−1, 1+2)"), [-1, 3, 0, 0])
        self.assertEqual(ideal_of_lines("A¹(0+1, −1)", "A¹(−1, 1+1)"), [-1, 3, 0, 0])
        self.assertEqual(ideal_of_lines("B²", "A²(−1, −2, 2+⟨()⟩)", "A²(−1, −2, 2+⟨(]⟩)"), [-1, 3, 0, 0])
        self.assertEqual(ideal_of_lines("A²(−1, −2, 2+⟨(]⟩)", "A²(−1, −2, 2+⟨(]⟩)"), "A²(−1, −2, 2+⟨(]⟩)")
        self.assertEqual(ideal_of_lines("A¹(−1, 1+1)", "A¹(1+2)"), "A¹")

    def test_more_than_48_gatherings(self):
        self.assertEqual(ideal_of_lines(FORTY_EIGHT, "*²"), [-1, 4, 0, 0])
        self.assertEqual(ideal_of_lines(FORTY_EIGHT, "A–Z² χ²"), FORTY_EIGHT)
        self.assertEqual(ideal_of_lines(*[f"{2 * k}A–{2 * k + 2}B²" for k in range(2, 50, 3)]), [-1, 4, 0, 0])

    def test_the_first_why_of_several(self):
        sizes = ("A²", "A⁴")
        circle = ("B² C⁴", "C⁴ B²")
        places = ("D²⁰(0+2, −1)", "D²⁰(0+2, −2)")
        leafless = ("D¹(−1, 1+1)", "D¹(−1, 1+2)")
        many = ("2A–4B²", "5A²")
        for words in (places, leafless):
            self.assertEqual(ideal_of_lines(*many, *words, *circle, *sizes), [-1, 1, 6, 7])
            self.assertEqual(ideal_of_lines(*circle, *sizes), [-1, 1, 2, 3])
            self.assertEqual(ideal_of_lines(*words, *sizes), [-1, 1, 2, 3])
            self.assertEqual(ideal_of_lines(*many, *sizes), [-1, 1, 2, 3])
            self.assertEqual(ideal_of_lines(*many, *words, *circle), [-1, 2, 0, 0])
            self.assertEqual(ideal_of_lines(*words, *circle), [-1, 2, 0, 0])
            self.assertEqual(ideal_of_lines(*many, *circle), [-1, 2, 0, 0])
            self.assertEqual(ideal_of_lines(*many, *words), [-1, 3, 0, 0])
        self.assertEqual(ideal_of_lines(*many), [-1, 4, 0, 0])


class Promises(unittest.TestCase):

    def test_the_same_in_whatever_order_the_copies_come(self):
        lines = ("C² A²(−1)", "B²(1+1) A²", "D⁴(÷1) π² A²(−2)", "B²(1+1)", "D⁴(−1)")
        for row in itertools.permutations(lines):
            self.assertEqual(ideal_of_lines(*row), "B²(1+1) C² D⁴(÷1) π² A²")

    def test_ideal_of_the_ideal_and_a_copy(self):
        lines = ("C²(−1) A² Z²(÷1)", "B²(1+1) A²(÷2)", "D⁴(÷1) π² A²(−2)")
        whole = ideal_of_lines(*lines)
        self.assertEqual(whole, "B²(1+1) C²(−1) D⁴(÷1) π² A² Z²(÷1)")
        for line in lines:
            self.assertEqual(ideal_of_lines(whole, line), whole)
            self.assertEqual(ideal_of_lines(line, whole), whole)


class NothingKept(unittest.TestCase):

    texts = (
        "A–C² D⁴(−1, 2+⟨()⟩)\nB² D⁴(÷2)\n", "A²\nA⁴\n", "A² B⁴\nB⁴ A²\n", "A²\nB³\n", "", "A²", "A¹(−1, 1+1)\nA¹(−1, 1+2)\n",
        "A²(1+⟨[)⟩)\n",
    )

    def test_what_is_handed_in_is_not_changed(self):
        for text in self.texts:
            given = Unchanging(chars(text))
            ideal(given)
            self.assertEqual(list(given), chars(text))

    def test_a_second_call_answers_as_the_first_did(self):
        first = [ideal(chars(text)) for text in self.texts]
        for answer in first:
            answer.append(0)
        again = [ideal(chars(text)) + [0] for text in reversed(self.texts)]
        self.assertEqual(first, again[::-1])

    def test_answers_are_lists_of_ints_and_new_ones(self):
        for text in self.texts:
            given = chars(text)
            answer = ideal(given)
            self.assertIs(type(answer), list)
            self.assertIsNot(answer, given)
            self.assertEqual({type(number) for number in answer}, {int})


if __name__ == "__main__":
    unittest.main()
