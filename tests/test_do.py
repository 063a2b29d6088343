"""Accidents' lines done to a book, and where lines are at fault: a ^ stands before that place, and isn't of the text."""

import random
import unittest

import oracle
import oracle_lines
from helper import Unchanging, chars, done, lined, marked, told
from makings import drawn_lines, drawn_pair, spoilt
from quirecopies.copies import do

FORTY_EIGHT = "A–Z² a–z² π² χ²"
STUFF = "ABCZabz2019πχ*†J –¹²().−÷+⟨⟩|[]\n~=>x"


class Doing(unittest.TestCase):

    def ask(self, book, lines, after):
        with self.subTest(book, lines=lines):
            self.assertEqual(done(book, lined(*lines)), after)

    def ask_faults(self, book, *cases):
        for case in cases:
            with self.subTest(case):
                lines, place = marked(case)
                self.assertEqual(do(chars(book), chars(lines)), [-3, place])


class EachLine(Doing):

    def test_no_lines(self):
        for book in ("A²", "A–Z⁸", FORTY_EIGHT, "π⁴ A–C⁸ χ¹(−1, 1+⟨(]⟩)", "2A²⁰(÷20) A²⁰(0+1)"):
            self.ask(book, [], book)

    def test_the_answer_tells_its_length_first(self):
        self.assertEqual(do(chars("A–B²"), chars("~A\n")), [2, 66, 0xB2])
        self.assertEqual(do(chars("A²"), [0x2212, 65, 46, 49, 10]), [6, 65, 0xB2, 40, 0x2212, 49, 41])
        self.assertEqual(do(chars("A²"), [0xF7, 65, 46, 49, 10]), [6, 65, 0xB2, 40, 0xF7, 49, 41])
        self.assertEqual(do(chars("A²(−1)"), [0x3D, 65, 46, 49, 10]), [2, 65, 0xB2])
        self.assertEqual(do(chars("A²"), [43, 65, 46, 48, 32, 50, 10]), [7, 65, 0xB2, 40, 48, 43, 50, 41])
        self.assertEqual(do(chars("A–B²"), [0x3E, 66, 10]), [5, 66, 0xB2, 32, 65, 0xB2])
        self.assertEqual(do(chars("A–B²"), [0x3E, 65, 32, 66, 10]), [5, 66, 0xB2, 32, 65, 0xB2])

    def test_a_gathering_is_gone(self):
        self.ask("A–C²", ["~A"], "B–C²")
        self.ask("A–C²", ["~B"], "A² C²")
        self.ask("A–C²", ["~C"], "A–B²")
        self.ask("A² 99†⁴(−1)", ["~99†"], "A²")
        self.ask("A² 99†⁴(−1)", ["~A"], "99†⁴(−1)")

    def test_a_leaf_becomes_so(self):
        self.ask("A⁴", ["−A.2"], "A⁴(−2)")
        self.ask("A⁴", ["÷A.2"], "A⁴(÷2)")
        self.ask("A⁴(−2)", ["=A.2"], "A⁴")
        self.ask("A⁴(−2)", ["÷A.2"], "A⁴(÷2)")
        self.ask("A⁴(÷2)", ["=A.2"], "A⁴")
        self.ask("A⁴(÷2)", ["−A.2"], "A⁴(−2)")
        self.ask("A–B⁴", ["−B.1"], "A⁴ B⁴(−1)")
        self.ask("A–B⁴", ["−A.4"], "A⁴(−4) B⁴")
        self.ask("A¹(1+1)", ["−A.1"], "A¹(−1, 1+1)")
        self.ask("2z²⁰", ["÷2z.20"], "2z²⁰(÷20)")

    def test_a_leaf_that_is_so_already(self):
        self.ask("A⁴", ["=A.2"], "A⁴")
        self.ask("A⁴(−2)", ["−A.2"], "A⁴(−2)")
        self.ask("A⁴(÷2)", ["÷A.2"], "A⁴(÷2)")

    def test_a_gap_has_that(self):
        self.ask("A²", ["+A.1 1"], "A²(1+1)")
        self.ask("A²", ["+A.0 9"], "A²(0+9)")
        self.ask("A²", ["+A.2 ⟨()⟩"], "A²(2+⟨()⟩)")
        self.ask("A²", ["+A.2 ⟨||||||||||⟩"], "A²(2+⟨||||||||||⟩)")
        self.ask("A¹", ["−A.1", "+A.0 ⟨" + "|" * 21 + "⟩"], "A¹(0+⟨" + "|" * 21 + "⟩, −1)")
        self.ask("A²(1+1)", ["+A.1 0"], "A²")
        self.ask("A²(1+⟨()⟩)", ["+A.1 0"], "A²")
        self.ask("A²", ["+A.1 0"], "A²")
        self.ask("A²(1+1)", ["+A.1 2"], "A²(1+2)")
        self.ask("A²(1+1)", ["+A.1 ⟨[)⟩"], "A²(1+⟨[)⟩)")
        self.ask("A²(1+1)", ["+A.2 2"], "A²(1+1, 2+2)")
        self.ask("A¹²", ["+A.12 3"], "A¹²(12+3)")
        for many in range(1, 10):
            self.ask("A²", [f"+A.1 {many}"], f"A²(1+{many})")

    def test_behind_another(self):
        self.ask("A–D²", [">A B"], "B² A² C–D²")
        self.ask("A–D²", [">A C"], "B–C² A² D²")
        self.ask("A–D²", [">A D"], "B–D² A²")
        self.ask("A–D²", [">D A"], "A² D² B–C²")
        self.ask("A–D²", [">D B"], "A–B² D² C²")
        self.ask("A–D²", [">C A"], "A² C² B² D²")
        self.ask("A² 2π² 13*²", [">A 2π"], "2π² A² 13*²")

    def test_behind_the_one_it_stands_behind_already(self):
        self.ask("A–D²", [">B A"], "A–D²")
        self.ask("A–D²", [">D C"], "A–D²")

    def test_in_front_of_all(self):
        self.ask("A–D²", [">D"], "D² A–C²")
        self.ask("A–D²", [">B"], "B² A² C–D²")
        self.ask("A–D²", [">A"], "A–D²")
        self.ask("A²", [">A"], "A²")

    def test_what_is_moved_stays_as_it_is(self):
        self.ask("A–B⁴ C⁴(0+⟨()⟩, −1)", [">C A"], "A⁴ C⁴(0+⟨()⟩, −1) B⁴")


class OneAfterAnother(Doing):

    def test_a_later_one_speaks_of_what_an_earlier_one_made(self):
        self.ask("A–D²", [">A B", ">C A", "~A"], "B–D²")
        self.ask("A–C²", [">A C", ">A C", ">A"], "A–C²")
        self.ask("A–C²", [">C", ">B C"], "C² B² A²")
        self.ask("A–C²", [">B C", ">C"], "C² A–B²")
        self.ask("A²", ["+A.1 1", "+A.1 2", "−A.1", "÷A.1"], "A²(÷1, 1+2)")
        self.ask("A²", ["−A.1", "=A.1", "÷A.2", "=A.2"], "A²")
        self.ask("A–C²", ["~B", ">C"], "C² A²")

    def test_gatherings_that_become_one_item(self):
        self.ask("B² A²", [">A"], "A–B²")
        self.ask("A² B²(−1) C²", ["=B.1"], "A–C²")
        self.ask("A² π² B²", ["~π"], "A–B²")
        self.ask("Z²(1+1) 2A²", ["+Z.1 0"], "Z–2A²")
        self.ask("A–B² D² C²", [">D C"], "A–D²")

    def test_gatherings_that_no_longer_are(self):
        self.ask("A–C²", ["÷B.1"], "A² B²(÷1) C²")
        self.ask("A–E²", ["~C"], "A–B² D–E²")
        self.ask("A–E²", ["+A.0 1", "+E.2 1"], "A²(0+1) B–D² E²(2+1)")

    def test_what_is_no_make_up_between(self):
        self.ask("A²(÷1)", ["÷A.2", "=A.1"], "A²(÷2)")
        self.ask("A²(÷1)", ["−A.2", "=A.1"], "A²(−2)")
        self.ask("A²(−1)", ["÷A.2", "=A.1"], "A²(÷2)")
        self.ask("A²", ["−A.1", "−A.2", "+A.0 1"], "A²(0+1, −1, −2)")
        self.ask("A²", ["−A.1", "−A.2", "=A.1"], "A²(−2)")
        self.ask("A²⁰", ["+A.0 9", "+A.20 ⟨" + "|" * 21 + "⟩", "+A.0 0", "+A.20 1"], "A²⁰(20+1)")
        self.ask("A¹", ["÷A.1", "=A.1"], "A¹")
        self.ask("A¹", ["÷A.1", "−A.1", "+A.0 ⟨()⟩"], "A¹(0+⟨()⟩, −1)")
        self.ask("A–B²", ["÷A.1", "÷A.2", "~A"], "B²")

    def test_48_gatherings(self):
        self.ask(FORTY_EIGHT, [">χ", ">π χ", "~A"], "χ² π² B–Z² a–z²")
        self.ask(FORTY_EIGHT, ["~" + one for one in "ABCDEFGHIKLMNOPQRSTVXYZabcdefghiklmnopqrstvxyzπ"], "χ²")

    def test_many_lines(self):
        lines = (">A B\n" + ">A\n") * 3750
        self.assertEqual(len(lines), 30000)
        self.assertEqual(done("A–B²", lines), "A–B²")


class NoMakeUpInTheEnd(Doing):

    def test_no_gathering_left(self):
        self.ask_faults("A²", "~A\n^")
        self.ask_faults("A–C²", "~A\n~C\n~B\n^")

    def test_more_than_21_places(self):
        self.ask_faults("A²⁰", "+A.0 2\n^", "+A.0 1\n+A.20 1\n^", "+A.3 ⟨()⟩\n^")
        self.ask_faults("A²", "+A.1 ⟨" + "|" * 20 + "⟩\n^")
        self.ask_faults("A²⁰(0+2, −1)", "÷A.1\n^", "=A.1\n^")
        self.ask("A²⁰", ["+A.0 1"], "A²⁰(0+1)")
        self.ask("A²", ["−A.1", "+A.1 ⟨" + "|" * 20 + "⟩"], "A²(−1, 1+⟨" + "|" * 20 + "⟩)")

    def test_no_leaf(self):
        self.ask_faults("A²", "−A.1\n−A.2\n^")
        self.ask_faults("A¹", "−A.1\n^")
        self.ask_faults("A¹(0+1, −1)", "+A.0 0\n^")
        self.ask_faults("A–C²", "−B.2\n−B.1\n^")

    def test_a_cut_leaf_whose_partner_is_not_kept(self):
        self.ask_faults("A²", "÷A.1\n÷A.2\n^", "÷A.1\n−A.2\n^", "−A.1\n÷A.2\n^")
        self.ask_faults("A⁴(÷1)", "÷A.4\n^", "−A.4\n^")
        self.ask_faults("A⁴(−4)", "÷A.1\n^")
        self.ask_faults("A⁶(÷2)", "−A.5\n^")
        self.ask("A⁴(÷1)", ["÷A.2", "−A.3", "=A.2"], "A⁴(÷1, −3)")
        self.ask("A⁴", ["÷A.1", "÷A.3"], "A⁴(÷1, ÷3)")
        self.ask("A⁴", ["−A.1", "−A.4"], "A⁴(−1, −4)")

    def test_a_cut_leaf_of_size_1(self):
        self.ask_faults("A¹", "÷A.1\n^", "+A.1 1\n÷A.1\n^")
        self.ask_faults("A¹(−1, 1+1)", "÷A.1\n^")

    def test_the_last_or_any_gathering(self):
        self.ask_faults("A–C⁴", "÷A.1\n÷A.4\n^", "÷B.1\n÷B.4\n^", "÷C.1\n÷C.4\n^", "÷B.1\n÷B.4\n~A\n>C\n^")

    def test_a_fault_of_the_form_comes_first(self):
        self.ask_faults("A–B²", "~A\n~B\n^x", "~A\n~B\n~^A\n", "÷A.1\n÷A.2\n~A^")


class LinesAtFault(Doing):

    def test_a_character_that_cannot_stand_there(self):
        self.ask_faults(
            "A–B² 2C⁴", "^\n", "^ ~A\n", "^A\n", "^x", "^-A.1\n", "^.", "^2", "^⟨", "^<A\n", "^(−1)\n",
            "~^ A\n", "~^\n", "~^~A\n", "~^.", "~^–", "~^J\n", "~2^\n", "~2^ C\n", "~2^.", "~2^²", "~A^ ", "~A^.1\n", "~A^A\n",
            "~A^²\n", "~A^ B\n", "~A^–B\n", "~A^\r\n",
            "−^ A.1\n", "−^.1\n", "−^\n", "−A^1\n", "−A^\n", "−A^ 1\n", "−A^,1\n", "−A.^\n", "−A.^ 1\n", "−A.^−1\n", "−A.^¹\n",
            "−A.1^ \n", "−A.1^.\n", "−A.1^ 1\n", "−A.1^A\n", "÷A.^x", "÷A.1^,", "÷^÷A.1\n", "÷A^+1\n", "=A^=1\n", "=A.^=", "=A.2^x",
            "=^=A.1\n", "−^−A.1\n",
            "+^ A.1 1\n", "+A^ 1 1\n", "+A^+1\n", "+A.^ 1\n", "+A.1^\n", "+A.1^+1\n", "+A.1^.1\n", "+A.1 ^\n", "+A.1 ^ 1\n", "+A.1 ^|\n",
            "+A.1 ^()\n", "+A.1 ^+1\n", "+A.1 ^⟩\n", "+A.1 1^ \n", "+A.1 1^|\n", "+A.1 0^ \n", "+A.1 ⟨^\n", "+A.1 ⟨^1⟩\n", "+A.1 ⟨(^ )⟩\n",
            "+A.1 ⟨()^\n", "+A.1 ⟨()^⟨", "+A.1 ⟨()⟩^ \n", "+A.1 ⟨()⟩^1\n", "+A.1 ⟨()⟩^⟩",
            ">^ A\n", ">^\n", ">A^.1\n", ">A^B\n", ">A^>B\n", ">A ^\n", ">A ^ B\n", ">A B^ \n", ">A B^ A\n", ">A B^.", ">A 2^\n",
            "~A\n^\n", "~A\n^ ~B\n", "~A\n~B\n^A",
        )

    def test_a_line_that_is_not_ended(self):
        self.ask_faults(
            "A–B² 2C⁴", "~^", "~2^", "~0^", "~1^", "~100^", "~A^", "−^", "−A^", "−A.^", "−A.1^", "÷2^", "÷2C.4^", "=^", "=A.2^",
            "+^", "+A^", "+A.^", "+A.1^", "+A.1 ^", "+A.1 1^", "+A.1 0^", "+A.1 ⟨^", "+A.1 ⟨()^", "+A.1 ⟨((^", "+A.1 ⟨()⟩^",
            ">^", ">A^", ">A ^", ">A 2^", ">A B^", "~A\n~B^", "~A\n>B 2C^",
        )

    def test_a_signature_of_0_1_or_more_than_99_times(self):
        for line in ("~^{}A", "−^{}A.1", "÷^{}A.1", "=^{}A.1", "+^{}A.1 1", ">^{}A", ">^{}A B", ">B ^{}A"):
            for times in ("0", "1", "100", "101", "999", "1234567"):
                self.ask_faults("A–B² 2A²", line.format(times), line.format(times) + "\n", "+B.0 1\n" + line.format(times))

    def test_a_signature_that_there_is_not(self):
        for line in ("~^{}", "−^{}.1", "÷^{}.1", "=^{}.1", "+^{}.1 1", ">^{}", ">^{} B", ">B ^{}"):
            for name in ("C", "a", "π", "2A", "99A"):
                self.ask_faults("A–B² 2C⁴", line.format(name), line.format(name) + "\n", "−B.1\n" + line.format(name) + "\n")

    def test_a_signature_that_there_is_not_any_more(self):
        for line in ("~^{}", "−^{}.1", "÷^{}.1", "=^{}.1", "+^{}.1 1", ">^{}", ">^{} B", ">B ^{}"):
            for name in ("A", "2C"):
                self.ask_faults("A–B² 2C⁴", f"~{name}\n" + line.format(name) + "\n")
        self.ask_faults("A²", "~A\n~^A\n")

    def test_a_leaf_or_a_gap_that_there_is_not(self):
        for first in "−÷=":
            for leaf in (0, 3, 4, 10, 21, 1234567):
                self.ask_faults("A² B⁴", f"{first}A.^{leaf}\n", f"{first}A.^{leaf}", f"~B\n{first}A.^{leaf}x")
            self.ask_faults("A² B⁴", f"{first}B.^5\n")
            self.ask_faults("A¹", f"{first}A.^2\n", f"{first}A.^0\n")
            self.ask_faults("A²⁰", f"{first}A.^21\n")
        for gap in (3, 4, 10, 21, 1234567):
            self.ask_faults("A² B⁴", f"+A.^{gap} 1\n", f"+A.^{gap}", f"+A.^{gap}x", f"+A.^{gap} x", f"+A.^{gap} 10\n")
        self.ask_faults("A¹", "+A.^2 1\n")
        self.ask_faults("A²⁰", "+A.^21 0\n")
        self.ask("A¹", ["+A.1 1", "+A.0 1"], "A¹(0+1, 1+1)")
        self.ask("A²⁰", ["+A.20 1", "−A.20"], "A²⁰(−20, 20+1)")

    def test_what_is_put_in_and_cannot_be_told_so(self):
        self.ask_faults(
            "A²", "+A.1 ^10\n", "+A.1 ^10", "+A.1 ^10x", "+A.1 ^21\n", "+A.1 ^1234567\n", "+A.1 ^⟨⟩\n", "+A.1 ^⟨⟩", "+A.1 ^⟨⟩x",
            "+A.1 ^⟨|⟩\n", "+A.1 ^⟨||⟩\n", "+A.1 ^⟨|||||||||⟩\n", "+A.1 ^⟨(⟩\n", "+A.1 ^⟨)⟩\n", "+A.1 ^⟨[⟩\n", "+A.1 ^⟨]⟩\n",
            "+A.1 ^⟨)(⟩\n", "+A.1 ^⟨[]⟩\n", "+A.1 ^⟨([])⟩\n", "+A.1 ^⟨())⟩\n", "+A.1 ^⟨(()⟩\n", "+A.1 ^⟨[[)]⟩\n",
            "+A.1 ^⟨" + "|" * 22 + "⟩\n", "+A.1 ^⟨" + "()" * 11 + "⟩\n", "+A.1 ^⟨" + "(" * 29992 + "⟩\n",
        )
        self.ask("A²", ["+A.1 ⟨[([)])⟩"], "A²(1+⟨[([)])⟩)")
        self.ask("A¹", ["−A.1", "+A.1 ⟨" + "(" * 10 + "|" + ")" * 10 + "⟩"], "A¹(−1, 1+⟨" + "(" * 10 + "|" + ")" * 10 + "⟩)")

    def test_every_short_row_of_signs(self):
        for length in range(6):
            for number in range(5 ** length):
                signs = "".join("|()[]"[number // 5 ** k % 5] for k in range(length))
                good = oracle.paired(signs) and signs.strip("|") != ""
                answer = done("A²", f"+A.1 ⟨{signs}⟩\n")
                self.assertEqual(answer, f"A²(1+⟨{signs}⟩)" if good else [-3, 5])

    def test_behind_itself(self):
        self.ask_faults("A–B² 2C⁴", ">A ^A\n", ">A ^A", ">A ^Ax", ">2C ^2C\n", ">A\n>B ^B\n")
        self.ask_faults("A²", ">A ^A\n")

    def test_numbers(self):
        self.ask_faults(
            "A²", "~0^0A\n", "~0^1A\n", "~0^2A\n", "~1234567^8A\n", ">A 0^2A\n", ">A 1234567^8", "−A.0^1\n", "−A.0^0\n",
            "−A.1234567^8\n", "÷A.0^2", "=A.0^1\n", "+A.0^1 1\n", "+A.0^0 1\n", "+A.1234567^8 1\n", "+A.1 0^1\n", "+A.1 0^0\n",
            "+A.1 1234567^8\n", "+A.1 0^9", "−A.1^²\n",
        )

    def test_what_is_looked_at_first(self):
        self.ask_faults(
            "A² B⁴", "~^C x", "~^0Ax", "~^100C", "~1234567^8C", "−^C.0\n", "−^C", "−^0A.9", "−A.^9x", "−A.^0", "−A.0^9",
            "+^C.9 10\n", "+A.^9 10\n", "+A.^9", "+A.1 ^10x", "+A.1 ^⟨|⟩x", "+A.1 ⟨|^x⟩", "+A.1 ⟨" + "|" * 22 + "^x",
            ">^C A\n", ">^C C\n", ">A ^Cx", ">A ^0A", ">^0A A\n", "~A\n−^A.9\n", "−A.1\n−A.2\n~^C",
        )

    def test_each_line_is_done_before_the_next_is_read(self):
        self.ask_faults("A–B²", "~A\n>B ^A\n", ">A B\n~A\n>^A B\n", "~B\n~^", "~B\n~^B", "~B\n~^B\n")
        self.ask("A–B²", ["~B", ">A"], "A²")

    def test_characters_far_outside_the_form(self):
        for char in (0, 1, 0x7F, 0x3D1, 0x110000, 2147483647):
            for text in ("", "~", "~A", "~A\n", "−A.", "−A.1", "+A.1", "+A.1 ", "+A.1 ⟨", "+A.1 ⟨()⟩", ">A", ">A ", ">A B"):
                self.assertEqual(do(chars("A–B²"), chars(text) + [char, 10]), [-3, len(text)])

    def test_long_texts(self):
        self.assertEqual(do(chars("A²"), [126] * 30000), [-3, 1])
        self.assertEqual(do(chars("A²"), [10] * 30000), [-3, 0])
        self.assertEqual(do(chars("A²"), [126] + [49] * 29999), [-3, 8])
        self.assertEqual(do(chars("A²"), chars("+A.1 ⟨") + [40] * 29994), [-3, 30000])


class NoBook(unittest.TestCase):

    def test_no_formula(self):
        for book in ("", "A", "A³", "A²\n", " A²", "A² B²", "A² A²", "A²(−3)", "A²(−1, −2)", "J²", "0A²", "A²(1+0)", "~A\n"):
            for lines in ("", "~A\n", "x", "~A", "A²"):
                with self.subTest(book, lines=lines):
                    self.assertEqual(done(book, lines), [-6])
        for char in (0, 10, 127, 0x110000, 2147483647):
            self.assertEqual(do([char], []), [-6])
            self.assertEqual(do([65, 0xB2, char], [char]), [-6])
        self.assertEqual(do([40] * 30000, [40] * 30000), [-6])


class AgainstOracle(unittest.TestCase):

    def ask(self, book, lines):
        self.assertEqual(done(book, lines), oracle_lines.do(book, lines), (book, lines))

    def test_drawn_lines(self):
        draw = random.Random(30)
        good = 0
        for number in range(3000):
            book, copy = drawn_pair(draw, 6)
            text = oracle.written(book)
            lines = drawn_lines(draw, book, draw.randrange(7))
            self.ask(text, lines)
            good += isinstance(done(text, lines), str)
        self.assertGreater(good, 800)

    def test_spoilt_lines(self):
        draw = random.Random(31)
        for number in range(3000):
            book, copy = drawn_pair(draw, 4)
            lines = drawn_lines(draw, book, draw.randrange(1, 4))
            self.ask(oracle.written(book), spoilt(draw, lines, STUFF))

    def test_every_short_beginning(self):
        for lines in ("~2C\n>A B\n", "+B.12 ⟨[)⟩\n", "−A.1\n÷B.10\n", ">2C\n=B.1\n+A.0 0\n"):
            for end in range(len(lines) + 1):
                for char in [""] + list(STUFF):
                    self.ask("A² B¹² 2C⁴(−1)", lines[:end] + char)
                    self.ask("A² B¹² 2C⁴(−1)", lines[:end] + char + lines[end:])

    def test_drawn_stuff_behind_a_good_beginning(self):
        draw = random.Random(32)
        for number in range(4000):
            lines = draw.choice(("", "~", "−A.", "÷", "=2", "+A.1 ", "+A.1 ⟨", ">", ">A ", "~A\n", "+B.1 1\n>B"))
            self.ask("A–B² 2z¹(1+1)", lines + "".join(draw.choice(STUFF) for step in range(draw.randrange(7))))


class Promises(unittest.TestCase):

    def test_a_copys_accidents_done_to_the_book_give_the_copy(self):
        draw = random.Random(33)
        for number in range(2000):
            book, copy = drawn_pair(draw, 10)
            texts = oracle.written(book), oracle.written(copy)
            self.assertEqual(done(texts[0], told(*texts)), texts[1], texts)

    def test_so_do_those_of_48_gatherings(self):
        draw = random.Random(34)
        for number in range(60):
            book, copy = drawn_pair(draw, 48)
            texts = oracle.written(book), oracle.written(copy)
            self.assertEqual(done(texts[0], told(*texts)), texts[1], texts)

    def test_a_copy_that_is_the_book_has_none(self):
        draw = random.Random(35)
        for number in range(300):
            for quires in drawn_pair(draw):
                text = oracle.written(quires)
                self.assertEqual(told(text, text), "")

    def test_lines_done_are_done_one_after_another(self):
        draw = random.Random(36)
        split = 0
        for number in range(1500):
            book = oracle.written(drawn_pair(draw, 6)[0])
            lines = drawn_lines(draw, oracle.read(book), draw.randrange(2, 7)).splitlines(keepends=True)
            middle = draw.randrange(len(lines) + 1)
            first, second = "".join(lines[:middle]), "".join(lines[middle:])
            between = done(book, first)
            if isinstance(between, str):
                split += 1
                after = done(between, second)
                if not isinstance(after, str):
                    after = [-3, len(first) + after[1]]
                self.assertEqual(done(book, first + second), after, (book, first, second))
        self.assertGreater(split, 500)


class NothingKept(unittest.TestCase):

    pairs = (
        ("A–C²", "~A\n>C B\n"), ("A²", ""), ("A²", "−A.1\n−A.2\n"), ("A³", ""), ("", "x"), ("A²(1+1)", "+A.1 ⟨()⟩\n"), ("A⁴(÷1)", "=A.1\n"),
        ("A–C²", ">C\n>B C\n+A.1 3\n"), ("A²", "~B\n"),
    )

    def test_what_is_handed_in_is_not_changed(self):
        for book, lines in self.pairs:
            t, u = Unchanging(chars(book)), Unchanging(chars(lines))
            do(t, u)
            self.assertEqual((list(t), list(u)), (chars(book), chars(lines)))

    def test_a_second_call_answers_as_the_first_did(self):
        first = [do(chars(book), chars(lines)) for book, lines in self.pairs]
        for answer in first:
            answer.append(0)
        again = [do(chars(book), chars(lines)) + [0] for book, lines in reversed(self.pairs)]
        self.assertEqual(first, again[::-1])

    def test_answers_are_lists_of_ints_and_new_ones(self):
        for book, lines in self.pairs:
            t, u = chars(book), chars(lines)
            answer = do(t, u)
            self.assertIs(type(answer), list)
            self.assertIsNot(answer, t)
            self.assertIsNot(answer, u)
            self.assertEqual({type(number) for number in answer}, {int})


if __name__ == "__main__":
    unittest.main()
