"""Where a text is at fault. A ^ stands before the place that the document asks, and isn't of the text."""

import unittest

from helper import chars, ideal_of_lines, marked
from quirecopies.copies import ideal

FORTY_EIGHT = "A–Z² a–z² π² χ²"


class FormulaFaults(unittest.TestCase):

    def ask(self, *cases):
        for case in cases:
            text, place = marked(case)
            with self.subTest(case):
                self.assertEqual(ideal(chars(text + "\n")), [-6, place])
                self.assertEqual(ideal(chars(text)), [-6, place], "not ended")
                self.assertEqual(ideal(chars("A–2B⁸\n" + text + "\nA²\n")), [-6, place + 6], "a later line")

    def ask_good(self, *formulas):
        for formula in formulas:
            with self.subTest(formula):
                self.assertEqual(ideal_of_lines(formula), formula)

    def test_signs_that_there_are(self):
        for sign in "ABCDEFGHIKLMNOPQRSTVXYZabcdefghiklmnopqrstvxyzπχ*†":
            self.ask_good(sign + "²", "2" + sign + "⁴", "99" + sign + "¹")

    def test_signs_that_there_are_not(self):
        self.ask(*["^" + sign + "²" for sign in "JUWjuwÄΑαρ+#‡×@[`{/:"])

    def test_character_that_cannot_stand_there(self):
        self.ask(
            "^ A²", "^²", "^–A²", "^(−1)", "A^ ", "A^A²", "A^2", "A^(−1)", "A^-B²", "A^−B²", "A²^x", "A²^,", "A²^)",
            "A²^–B²", "A²^B⁴", "A²^2", "A² ^ B⁴", "A² ^, B⁴", "A² ^²", "A–^ B²", "A–^–B²", "A–^²", "A–B^ ", "A–B^–C²",
            "A–B^C²", "A²(^)", "A²(^x", "A²(^ −1)", "A²(^-1)", "A²(^⟨()⟩)", "A²(^+1)", "A²(^²+1)", "A²(−^)", "A²(−^ 1)",
            "A²(−^−1)", "A²(−^¹)", "A²(÷^x", "A²(−1^ ", "A²(−1^+1)", "A²(−1^;", "A²(−1^²)", "A²(−1,^1+1)", "A²(−1, ^)",
            "A²(−1, ^ 1+1)", "A²(1^)", "A²(1^, 2+1)", "A²(1^−1)", "A²(1+^)", "A²(1+^|)", "A²(1+^+1)", "A²(1+1^|)",
            "A²(1+^⟩)", "A²(1+⟨^x", "A²(1+⟨^1⟩)", "A²(1+⟨()^ ⟩)", "A²(1+⟨()^,", "A²(1+⟨()^⟨", "A²(1+⟨()⟩^x", "A²(1+⟨()⟩^ )",
            "A²(−1)^(−2)", "A²(−1)^x", "A²(−1)^B²", "A²(−1)^)", "A²(−1)^²", "2^ A²", "2^²", "2^–A²", "1^ ", "100^²",
            "A²^\tB⁴", "A²^\r", "A²^\u00a0B⁴",
        )

    def test_more_must_come(self):
        self.ask(
            "^", "A^", "2^", "0^", "1^", "100^", "1234567^", "A² ^", "A–^", "A–2^", "A–B^", "A²(^", "A²(−^", "A²(÷^",
            "A²(−1^", "A²(−1,^", "A²(−1, ^", "A²(1^", "A²(1+^", "A²(1+1^", "A²(1+⟨^", "A²(1+⟨()^", "A²(1+⟨()⟩^",
            "A²(1+⟨((^", "A²(−1) ^", "A² B^",
        )

    def test_numbers(self):
        self.ask(
            "0^0A²", "0^1A²", "0^2A²", "1234567^8A²", "^1234567A²", "A–0^2B²", "A–1234567^8B²",
            "A⁰^²", "A⁰^⁰", "A¹²³⁴⁵⁶⁷^⁸", "A^²²²²²²²", "A²(−0^1)", "A²(÷0^1)", "A²(−1234567^8)", "A²(^−1234567)",
            "A²(0^0+1)", "A²(0^1+1)", "A²(1234567^8+1)", "A²(^1234567+1)", "A²(1+0^1)", "A²(1+0^0)",
            "A²(1+1234567^8)", "A²(^1+1234567)",
        )

    def test_times(self):
        self.ask("^0A²", "^1A²", "^100A²", "^101π²", "^999A²", "A² ^0B⁴", "A² ^1B⁴", "A² ^100B⁴", "^0A", "^1A", "^100A")
        self.ask_good("2A²", "9A²", "10A²", "99A²")

    def test_signature_that_is_there_already(self):
        self.ask(
            "A² ^A²", "A² ^A", "A² B⁴ ^A²", "A–C² ^B", "A–C² ^B⁴", "A–C² ^C", "2π² ^2π", "A² B²(−1) ^B", "A²(−1) ^A",
            "C² A–^C²", "C² A–^C", "B⁴ A–^C²", "B⁴ A–^D", "2A² X–^2B²", "A–C² ^B–D²",
        )
        self.ask_good("A² 2A²", "A² a²", "2A² A²", "A–C² 2B²")

    def test_more_than_48_gatherings(self):
        self.ask(
            FORTY_EIGHT + " ^*²", FORTY_EIGHT + " ^*", FORTY_EIGHT + " ^2A–2B²", "A–Z² a–^2c", "A–^3C²", "A–^3C",
            "A–^99Z²", "a–^99z", "A–Z² a–z² π² 2A–^2B²",
        )
        self.ask_good(FORTY_EIGHT, "A–3B²", "A–Z² a–2b²", "A–Z² a–z² 2A–2B⁴")

    def test_second_signature_not_behind_the_first(self):
        self.ask(
            "A–^A²", "A–^A", "B–^A²", "A–^a²", "a–^A²", "2A–^B", "2A–^A", "A–^π", "Z–^a", "z–^A", "π–^χ²", "π–^2π", "*–^†",
            "†–^A", "99Z–^A", "99Z–^99Z", "99Z–^99a", "99z–^99A", "99X–^98Z", "A–^1B", "A–^0B", "A–^100A", "99Z–^100A",
        )
        self.ask_good("A–B²", "A–2A²", "Z–2A²", "z–2a²", "98Z–99A²", "99Y–99Z²", "I–K²", "T–V²", "V–X²", "i–k²")

    def test_sizes(self):
        raised = "⁰¹²³⁴⁵⁶⁷⁸⁹"
        good = [1] + list(range(2, 21, 2))
        for size in list(range(0, 45)) + [100, 102, 120, 200, 9999999]:
            told = "".join(raised[int(digit)] for digit in str(size))
            if size in good:
                self.ask_good("A" + told, "A–B" + told)
            else:
                self.ask("A^" + told, "A–B^" + told, "A² C^" + told + " D²")

    def test_notes_in_order(self):
        self.ask(
            "A⁴(−2, ^−1)", "A⁴(−1, ^−1)", "A⁴(÷1, ^÷1)", "A⁴(÷2, ^−1)", "A⁴(1+1, ^1+1)", "A⁴(1+1, ^−1)", "A⁴(−1, ^0+1)",
            "A⁴(2+1, ^1+1)", "A⁴(0+1, ^0+2)", "A⁴(−1, −4, ^÷2)", "A⁴(−1, 3+1, ^−3)", "A⁴(÷2, ^1+1)",
        )
        self.ask_good("A⁴(0+1, −1, 1+2, ÷2, 2+3, 3+4, −4, 4+5)", "A¹²(−2, −10)", "A¹²(2+1, 10+1)", "A⁴(0+1, 4+1)")

    def test_leaf_or_gap_that_there_is_not(self):
        self.ask(
            "A⁴(^−0)", "A⁴(^÷0)", "A⁴(^−5)", "A⁴(^÷5)", "A⁴(^5+1)", "A⁴(−1, ^−5)", "A⁴(^10+1)", "A¹(^−2)", "A¹(^2+1)",
            "A²⁰(^−21)", "A²⁰(^21+1)",
        )
        self.ask_good("A⁴(−4)", "A⁴(÷4)", "A⁴(4+1)", "A⁴(0+1)", "A¹(0+1)", "A¹(1+1)", "A²⁰(−20)", "A²⁰(20+1)")

    def test_leaf_that_cannot_be_cut_or_lost(self):
        self.ask(
            "A²(÷1, ^÷2)", "A²(÷1, ^−2)", "A²(−1, ^÷2)", "A¹(^÷1)", "A¹(^÷1, 1+1)", "A¹(0+1, ^÷1)", "A⁶(÷2, ^÷5)", "A⁶(÷2, ^−5)",
            "A⁶(−2, ^÷5)", "A⁶(÷1, ÷2, ^−5)",
        )
        self.ask_good("A⁴(÷1, ÷2)", "A⁴(÷1, −2)", "A⁴(−1, ÷2)", "A⁴(÷1, ÷3)", "A⁴(−1, −4)", "A⁴(÷4)", "A⁴(÷2, −4)")

    def test_what_is_put_in(self):
        self.ask(
            "A²(^1+0)", "A²(^1+10)", "A²(^1+21)", "A²(^1+⟨⟩)", "A²(^1+⟨|⟩)", "A²(^1+⟨||⟩)", "A²(^1+⟨|||||||||⟩)",
            "A²(^1+⟨(⟩)", "A²(^1+⟨)⟩)", "A²(^1+⟨[⟩)", "A²(^1+⟨]⟩)", "A²(^1+⟨)(⟩)", "A²(^1+⟨[]⟩)", "A²(^1+⟨(()⟩)",
            "A²(^1+⟨())⟩)", "A²(^1+⟨([])⟩)", "A²(^1+⟨([|])⟩)", "A²(^1+⟨[[)]⟩)", "A²(−1, ^1+⟨[|]⟩)",
            "A¹(−1, ^1+⟨" + "|" * 22 + "⟩)", "A¹(−1, ^1+⟨" + "()" * 11 + "⟩)", "A¹(−1, ^1+⟨" + "(" * 29900 + "⟩)",
        )
        self.ask_good(
            "A²(1+1)", "A²(1+9)", "A²(1+⟨||||||||||⟩)", "A²(1+⟨()⟩)", "A²(1+⟨(]⟩)", "A²(1+⟨[)⟩)", "A²(1+⟨|(|)|⟩)",
            "A²(1+⟨[(])⟩)", "A²(1+⟨([)]⟩)", "A²(1+⟨[([)])⟩)", "A²(1+⟨()()⟩)", "A¹(−1, 1+⟨" + "|" * 21 + "⟩)",
            "A¹(−1, 1+⟨" + "(" * 10 + "|" + ")" * 10 + "⟩)",
        )

    def test_more_than_21_places_or_no_leaf(self):
        self.ask(
            "A²⁰^(0+2)", "A²⁰^(0+1, 20+1)", "A²⁰^(0+1, ÷1, 1+1)", "A²⁰^(0+⟨()⟩)", "A¹^(−1)", "A²^(−1, −2)",
            "A⁴^(−1, −2, −3, −4)", "A²^(1+⟨" + "|" * 20 + "⟩)", "A² B²^(−1, −2)",
        )
        self.ask_good(
            "A²⁰(0+1)", "A²⁰(0+1, −1, 1+1)", "A²⁰(−1, 20+⟨()⟩)", "A¹(−1, 1+1)", "A¹(0+1, −1)", "A²(−1, −2, 2+1)",
            "A¹(0+⟨[)⟩, −1)", "A²(−1, 1+⟨" + "|" * 20 + "⟩)",
        )

    def test_item_that_should_have_been_one_with_what_is_before(self):
        self.ask(
            "A² ^B²", "A–B² ^C²", "A² ^B–C²", "A–B² ^C–D²", "Z² ^2A²", "z² ^2a²", "98Z² ^99A²", "π² A² ^B²", "A⁴ B² ^C²",
            "I² ^K²", "A²(−1) B² ^C²", "A¹ ^B¹",
        )
        self.ask_good(
            "A² B⁴", "A² C²", "B² A²", "A² 2B²", "A² b²", "Z² a²", "Z² A²", "Z² 2a²", "π² χ²", "*² †²", "99Z² A²", "z² π²",
            "A²(−1) B²", "A² B²(−1)", "A²(−1) B²(−1)", "A² B²(1+1) C²", "A² π² B²", "A–B² C⁴", "A–B² D–E²", "π² 2π²",
        )

    def test_parenthesis_behind_an_item_of_two_signatures(self):
        self.ask("A–B²^(", "A–B²^(−1)", "A–B²^()", "A² C–D²^(−1)")

    def test_what_is_looked_at_first(self):
        self.ask(
            "^0A³", "^0Ax", "^100A–A", "A² ^A³", "A² ^Ax", "A–^A³", "A–^Ax", "A^³(", "A^³x", "A^³²", "A^³1", "A–B^³(−1)",
            "A² B^³", "A² ^B²x", "A² ^B² ", "A² ^B²,", "A² ^B–C²x", "A² B–C²^(−1)", "A² B–^B³",
            "A²(^5x", "A²(^5", "A²(^−5", "A²(^−5x", "A²(^−5, x", "A²(^÷5+", "A²(−1, ^0x", "A²(−1, ^0+x", "A²(−1, ^0+10",
            "A²(1+1, ^−1x", "A²(÷1, ^−2", "A²(÷1, ^÷2x", "A²(^1+10x", "A²(^1+0x", "A²(^1+0", "A²(^1+10, x",
            "A²(^1+⟨[]⟩x", "A²(^1+⟨⟩", "A²(1+⟨[]^x", "A²(1+⟨)^", "A²^(−1, −2)x", "A²^(−1, −2) ", "A²(−1, −2^x",
            "A²(−1, −2^", "A²⁰(0+9^", "A²⁰^(0+9)(", "A² B²^(−1, −2)", "A² ^A–B²(", "A² B⁴ ^B–A³",
        )


class CopiesFaults(unittest.TestCase):

    def ask(self, *cases):
        for case in cases:
            text, place = marked(case)
            with self.subTest(case):
                self.assertEqual(ideal(chars(text)), [-6, place])

    def test_no_line(self):
        self.ask("^")

    def test_line_that_is_not_ended(self):
        self.ask("A²^", "A²(−1)^", "A²\nB⁴^", "A–C²\nA²\nB⁴ D²^", "A²\n" * 15 + "A²^")

    def test_empty_line(self):
        self.ask("^\n", "^\nA²\n", "A²\n^\n", "A²\n^\nB²\n", "A²\nB²\n^\n", "A²\n" * 15 + "^\n")

    def test_seventeenth_line(self):
        sixteen = "A²\n" * 16
        self.assertEqual(ideal_of_lines(*["A²"] * 16), "A²")
        self.ask(
            sixteen + "^A²\n", sixteen + "^A²", sixteen + "^\n", sixteen + "^A³\n", sixteen + "^x", sixteen + "^A²\nA³\n",
            sixteen + "^\n\n",
        )

    def test_first_fault_of_several_lines(self):
        self.ask("A²\nB^³\nC³\n", "A²\n" * 3 + "A²^x\n" + "A²\n" * 20, "A² ^\nB²", "A^³\nB²", "A²\n^J²")

    def test_a_later_line_knows_nothing_of_those_before(self):
        self.assertEqual(ideal_of_lines("A²", "A²", "B²"), "A–B²")
        self.assertEqual(ideal_of_lines(FORTY_EIGHT, FORTY_EIGHT), FORTY_EIGHT)

    def test_other_line_ends(self):
        self.ask("A²^\r\n", "A²^\u2028B²\n", "A²^\u000b\n", "A²^\u0085\n")

    def test_fault_before_no_ideal(self):
        self.ask("A²\nA⁴\nB^³\n", "A² B⁴\nB⁴ A²\n^\n", "A² B⁴\nB⁴ A²\nA²^", "A²\nA⁴\nA²^")

    def test_characters_far_outside_the_form(self):
        for char in (0, 1, 127, 128, 255, 0xD800, 0xFFFF, 0x10000, 0x10FFFF, 0x110000, 2 ** 31 - 1):
            with self.subTest(char):
                self.assertEqual(ideal([char]), [-6, 0])
                self.assertEqual(ideal([65, char, 10]), [-6, 1])
                self.assertEqual(ideal([65, 0xB2, char, 10]), [-6, 2])
                self.assertEqual(ideal([65, 0xB2, 0x28, char, 10]), [-6, 3])
                self.assertEqual(ideal([65, 0xB2, 0x28, 0x31, 0x2B, 0x27E8, char, 10]), [-6, 6])
                self.assertEqual(ideal([65, 0xB2, 10, char]), [-6, 3])

    def test_long_texts(self):
        self.assertEqual(ideal([40] * 30000), [-6, 0])
        self.assertEqual(ideal([10] * 30000), [-6, 0])
        self.assertEqual(ideal([49] * 30000), [-6, 7])
        self.assertEqual(ideal(chars("A²(1+⟨") + [40] * 29994), [-6, 30000])
        self.assertEqual(ideal(chars("A²\n") * 10000), [-6, 48])


if __name__ == "__main__":
    unittest.main()
