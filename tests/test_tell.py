"""The lines of a copy's accidents against a book."""

import itertools
import random
import unittest

import oracle
import oracle_lines
from helper import Unchanging, chars, lined, told
from makings import drawn_pair, drawn_stranger
from quirecopies.copies import tell

FORTY_EIGHT = "A–Z² a–z² π² χ²"


class Telling(unittest.TestCase):

    def ask(self, book, copy, *lines):
        with self.subTest(book, copy=copy):
            self.assertEqual(told(book, copy), lined(*lines))


class Lacking(Telling):

    def test_a_copy_that_is_the_book(self):
        for line in ("A²", "A–Z⁸", FORTY_EIGHT, "π⁴ A–C⁸ χ¹(−1, 1+⟨(]⟩)", "2A²⁰(÷20) A²⁰(0+1)", "B²(−1) A²(1+3)"):
            with self.subTest(line):
                self.assertEqual(tell(chars(line), chars(line)), [0])

    def test_one(self):
        self.ask("A–C²", "B–C²", "~A")
        self.ask("A–C²", "A² C²", "~B")
        self.ask("A–C²", "A–B²", "~C")
        self.ask("A² 12π⁴(−1)", "A²", "~12π")

    def test_several_in_the_books_order(self):
        self.ask("A–E²", "C²", "~A", "~B", "~D", "~E")
        self.ask("E² A² D² B–C²", "D²", "~E", "~A", "~B", "~C")
        self.ask("99z¹ †² *² χ² π² A²", "A²", "~99z", "~†", "~*", "~χ", "~π")

    def test_what_is_in_them_is_not_told(self):
        self.ask("A²(−1) B²(÷1, 1+1) C²", "C²", "~A", "~B")

    def test_all_but_one_of_48(self):
        signatures = "ABCDEFGHIKLMNOPQRSTVXYZabcdefghiklmnopqrstvxyzπχ"
        self.ask(FORTY_EIGHT, "K²", *["~" + one for one in signatures if one != "K"])

    def test_the_answer_tells_its_length_first(self):
        self.assertEqual(tell(chars("A–B²"), chars("B²")), [3, 0x7E, 65, 10])
        self.assertEqual(tell(chars("A²"), chars("A²(−1)")), [5, 0x2212, 65, 0x2E, 49, 10])
        self.assertEqual(tell(chars("A²"), chars("A²(÷2)")), [5, 0xF7, 65, 0x2E, 50, 10])
        self.assertEqual(tell(chars("A²(−2)"), chars("A²")), [5, 0x3D, 65, 0x2E, 50, 10])
        self.assertEqual(tell(chars("2π²"), chars("2π²(0+3)")), [8, 0x2B, 50, 0x3C0, 0x2E, 48, 0x20, 51, 10])
        self.assertEqual(
            tell(chars("A²"), chars("A²(1+⟨[)⟩)")), [10, 0x2B, 65, 0x2E, 49, 0x20, 0x27E8, 91, 41, 0x27E9, 10])
        self.assertEqual(tell(chars("A–B²"), chars("B² A²")), [3, 0x3E, 66, 10])
        self.assertEqual(
            tell(chars("A–C²"), chars("A² C² B²")), [5, 0x3E, 67, 0x20, 65, 10])


class Otherwise(Telling):

    def test_leaves_in_each_of_the_six_ways(self):
        self.ask("A⁴", "A⁴(−2)", "−A.2")
        self.ask("A⁴", "A⁴(÷2)", "÷A.2")
        self.ask("A⁴(−2)", "A⁴", "=A.2")
        self.ask("A⁴(−2)", "A⁴(÷2)", "÷A.2")
        self.ask("A⁴(÷2)", "A⁴", "=A.2")
        self.ask("A⁴(÷2)", "A⁴(−2)", "−A.2")

    def test_leaves_alike(self):
        self.ask("A⁴(−2)", "A⁴(−2)")
        self.ask("A⁴(÷2)", "A⁴(÷2)")
        self.ask("A⁴(÷2, 2+1)", "A⁴(−1, ÷2, 2+1)", "−A.1")

    def test_first_and_last_leaf(self):
        self.ask("15x²⁰", "15x²⁰(−1, −20)", "−15x.1", "−15x.20")
        self.ask("A¹", "A¹(−1, 1+1)", "−A.1", "+A.1 1")
        self.ask("A¹(−1, 1+1)", "A¹", "=A.1", "+A.1 0")

    def test_partners_that_change_about(self):
        self.ask("A²(÷1)", "A²(÷2)", "=A.1", "÷A.2")
        self.ask("A²(÷2)", "A²(÷1)", "÷A.1", "=A.2")
        self.ask("A⁴(−1, −4)", "A⁴(÷1)", "÷A.1", "=A.4")

    def test_gaps(self):
        self.ask("A²", "A²(1+1)", "+A.1 1")
        self.ask("A²", "A²(0+9)", "+A.0 9")
        self.ask("A²", "A²(2+⟨||||||||||⟩)", "+A.2 ⟨||||||||||⟩")
        self.ask("A²", "A²(2+⟨()⟩)", "+A.2 ⟨()⟩")
        self.ask("A²(1+1)", "A²", "+A.1 0")
        self.ask("A²(1+⟨()⟩)", "A²", "+A.1 0")
        self.ask("A²(1+⟨()⟩)", "A²(1+⟨(]⟩)", "+A.1 ⟨(]⟩")
        self.ask("A²(1+1)", "A²(1+2)", "+A.1 2")
        self.ask("A²(1+2)", "A²(1+⟨|()⟩)", "+A.1 ⟨|()⟩")
        self.ask("A²(1+⟨|()⟩)", "A²(1+3)", "+A.1 3")
        self.ask("A²(1+1)", "A²(1+1)")
        self.ask("A²(1+1)", "A²(2+1)", "+A.1 0", "+A.2 1")
        self.ask("A¹²", "A¹²(10+1, 12+2)", "+A.10 1", "+A.12 2")

    def test_every_number_of_leaves_alone(self):
        for many in range(1, 22):
            told_so = str(many) if many < 10 else "⟨" + "|" * many + "⟩"
            self.ask("A¹(−1, 1+⟨()⟩)", f"A¹(−1, 1+{told_so})", "+A.1 " + told_so)

    def test_several_in_one_gathering_by_places(self):
        self.ask(
            "A⁴", "A⁴(0+1, −1, 1+2, ÷2, 2+3, 3+4, −4, 4+5)",
            "+A.0 1", "−A.1", "+A.1 2", "÷A.2", "+A.2 3", "+A.3 4", "−A.4", "+A.4 5")
        self.ask(
            "A⁴(0+1, −1, 1+2, ÷2, 2+3, 3+4, −4, 4+5)", "A⁴",
            "+A.0 0", "=A.1", "+A.1 0", "=A.2", "+A.2 0", "+A.3 0", "=A.4", "+A.4 0")
        self.ask("A¹²(2+1, −9)", "A¹²(−2, 10+1)", "−A.2", "+A.2 0", "=A.9", "+A.10 1")

    def test_several_gatherings_in_the_books_order(self):
        self.ask("A–C²", "A²(−1) B²(÷1) C²(1+1)", "−A.1", "÷B.1", "+C.1 1")
        self.ask("C² A–B²", "C²(1+1) A²(−1) B²(÷1)", "+C.1 1", "−A.1", "÷B.1")
        self.ask("A–C²", "C²(1+1) B²(÷1) A²(−1)", "−A.1", "÷B.1", "+C.1 1", ">C", ">B C")


class Moving(Telling):

    def test_none(self):
        self.ask("C² A–B²", "C² B²", "~A")
        self.ask("E² A² D² B–C²", "A² D² C²", "~E", "~B")

    def test_one(self):
        self.ask("A–E²", "B–D² A² E²", ">A D")
        self.ask("A–E²", "A² E² B–D²", ">E A")
        self.ask("A–E²", "E² A–D²", ">E")
        self.ask("A–E²", "B–E² A²", ">A E")
        self.ask("A² 2π² 13*²", "2π² 13*² A²", ">A 13*")
        self.ask("A² 2π² 13*²", "13*² A² 2π²", ">13*")

    def test_several(self):
        self.ask("A–E²", "E² D² A–C²", ">E", ">D E")
        self.ask("A–F²", "D² A² F² B² E² C²", ">D", ">F A", ">E B")

    def test_either_of_two_could_be_moved(self):
        self.ask("A–B²", "B² A²", ">B")
        self.ask("A–D²", "A² C² B² D²", ">C A")
        self.ask("A–D²", "B² A² D² C²", ">B", ">D A")

    def test_of_as_many_those_whose_places_come_first(self):
        self.ask("A–D²", "C–D² A–B²", ">C", ">D C")
        self.ask("A–F²", "D–F² A–C²", ">D", ">E D", ">F E")
        self.ask("A–D²", "B² D² A² C²", ">B", ">D B")
        self.ask("A–D²", "C² A² D² B²", ">C", ">D A")
        self.ask("A–E²", "C–D² A–B² E²", ">C", ">D C")
        self.ask("A–E²", "B² E² D² A² C²", ">B", ">E B", ">D E")

    def test_of_as_many_though_a_later_one_could_go_with_it(self):
        self.ask("A–E²", "A² E² B² D² C²", ">E A", ">D B")
        self.ask("A–C²", "B–C² A²", ">A C")

    def test_just_the_reverse_order(self):
        self.ask("A–E²", "E² D² C² B² A²", ">E", ">D E", ">C D", ">B C")
        signatures = "ABCDEFGHIKLMNOPQRSTVXYZabcdefghiklmnopqrstvxyzπχ"[::-1]
        copy = " ".join(one + "²" for one in signatures)
        pairs = [f">{two} {one}" for one, two in zip(signatures, signatures[1:])]
        self.ask(FORTY_EIGHT, copy, ">χ", *pairs[:-1])

    def test_48_gatherings(self):
        self.ask(FORTY_EIGHT, "χ² A–Z² a–z² π²", ">χ")
        self.ask(FORTY_EIGHT, "a–z² π² χ² A–Z²", *[f">{two} {one}" for one, two in zip("χABCDEFGHIKLMNOPQRSTVXY",
                                                                                      "ABCDEFGHIKLMNOPQRSTVXYZ")])
        self.ask(FORTY_EIGHT, "B² A² D² C² E–Z² a–z² χ² π²", ">B", ">D A", ">χ z")

    def test_the_one_before_may_be_one_that_is_moved_or_not(self):
        self.ask("A–F²", "A² D–F² C² B²", ">C F", ">B C")

    def test_gatherings_that_the_copy_lacks_are_not_moved(self):
        self.ask("A–F²", "F² B²", "~A", "~C", "~D", "~E", ">F")


class LinesInOrder(Telling):

    def test_lacking_then_otherwise_then_moved(self):
        self.ask(
            "A–F⁴", "D⁴(−1) F⁴(0+1) B⁴ C⁴(÷4)",
            "~A", "~E", "÷C.4", "−D.1", "+F.0 1", ">D", ">F D")
        self.ask(
            "π² A⁴(−1, −4) B⁴(1+⟨()⟩) C–D⁴ χ²", "C⁴ B⁴(1+⟨(]⟩, ÷2) A⁴(÷1)",
            "~π", "~D", "~χ", "÷A.1", "=A.4", "+B.1 ⟨(]⟩", "÷B.2", ">C", ">B C")


class Refusals(unittest.TestCase):

    bad = ("", "A", "A³", "A²\n", " A²", "A² B²", "A² A²", "A²(−3)", "A²(−1, −2)", "J²", "0A²", "A²(1+0)", "~A\n")

    def test_no_formula(self):
        for text in self.bad:
            with self.subTest(text):
                self.assertEqual(told(text, "A²"), [-6])
                self.assertEqual(told("A²", text), [-6])
                self.assertEqual(told(text, text), [-6])

    def test_characters_far_outside_the_form(self):
        for char in (0, 1, 10, 127, 128, 0x110000, 2147483647):
            self.assertEqual(tell([char], chars("A²")), [-6])
            self.assertEqual(tell(chars("A²"), [65, 0xB2, char]), [-6])
            self.assertEqual(tell([65, char], [char]), [-6])

    def test_long_texts(self):
        self.assertEqual(tell([40] * 30000, chars("A²")), [-6])
        self.assertEqual(tell(chars("A²"), chars("A²(1+⟨") + [40] * 29994), [-6])

    def test_signature_that_the_book_has_not(self):
        self.assertEqual(told("A²", "B²"), [-4])
        self.assertEqual(told("A–C²", "A–D²"), [-4])
        self.assertEqual(told("A–C²", "2A²"), [-4])
        self.assertEqual(told("A²", "a² A²"), [-4])
        self.assertEqual(told("π²", "χ²"), [-4])

    def test_another_size(self):
        self.assertEqual(told("A²", "A⁴"), [-4])
        self.assertEqual(told("A²⁰", "A²"), [-4])
        self.assertEqual(told("A–C²", "A–B² C¹"), [-4])
        self.assertEqual(told("A² B⁴", "A⁴ B²"), [-4])

    def test_no_formula_before_not_of_the_book(self):
        for text in self.bad:
            with self.subTest(text):
                self.assertEqual(told(text, "99Z¹²"), [-6])
        self.assertEqual(told("A²", "B² C"), [-6])
        self.assertEqual(told("A²", "A⁴ B²("), [-6])
        self.assertEqual(told("A² B", "C²"), [-6])


def as_formula(letters):
    return oracle.written([{"signature": (1, oracle.SIGNS.index(one)), "size": 2, "states": {}, "put": {}}
                           for one in letters])


def steps_between(start):
    """How many moves of one gathering each order is away from start, by trying all moves."""
    steps = {start: 0}
    row = [start]
    for order in row:
        for source, target in itertools.permutations(range(len(order)), 2):
            left = order[:source] + order[source + 1:]
            found = left[:target] + order[source] + left[target:]
            if found not in steps:
                steps[found] = steps[order] + 1
                row.append(found)
    return steps


class NoFewerMoves(unittest.TestCase):

    def test_no_fewer_steps_lead_there(self):
        steps = steps_between("ABCDEF")
        self.assertEqual(len(steps), 720)
        for order, many in steps.items():
            self.assertEqual(told("A–F²", as_formula(order)).count(">"), many, order)

    def test_every_choice_of_small_rows(self):
        for many in range(1, 7):
            for row in itertools.permutations(range(many)):
                copy = [oracle.SIGNS[number] for number in row]
                names = [copy[place] + (" " + copy[place - 1] if place else "") for place in oracle_lines.moved_of_few(row)]
                answer = told(as_formula(oracle.SIGNS[:many]), as_formula(copy))
                self.assertEqual(answer, lined(*[">" + name for name in names]), copy)

    def test_the_oracles_two_ways_agree(self):
        draw = random.Random(20)
        for number in range(300):
            row = draw.sample(range(12), draw.randrange(1, 9))
            self.assertEqual(oracle_lines.moved_of_few(row), oracle_lines.moved_of_many(row))


class AgainstOracle(unittest.TestCase):

    def ask(self, book, copy):
        self.assertEqual(told(book, copy), oracle_lines.tell(book, copy), (book, copy))

    def test_pairs(self):
        draw = random.Random(21)
        for number in range(2000):
            book, copy = drawn_pair(draw)
            self.ask(oracle.written(book), oracle.written(copy))

    def test_large_pairs(self):
        draw = random.Random(22)
        for number in range(150):
            book, copy = drawn_pair(draw, 48)
            self.ask(oracle.written(book), oracle.written(copy))

    def test_pairs_that_are_refused(self):
        draw = random.Random(23)
        found = {-6: 0, -4: 0}
        for number in range(600):
            book, copy = drawn_pair(draw, 4)
            texts = [oracle.written(book), oracle.written(drawn_stranger(draw, copy))]
            if draw.random() < 0.3:
                which = draw.randrange(2)
                texts[which] = texts[which][:draw.randrange(len(texts[which]) + 1)]
            self.ask(*texts)
            answer = told(*texts)
            if not isinstance(answer, str):
                found[answer[0]] += 1
        self.assertGreater(min(found.values()), 50)


class NothingKept(unittest.TestCase):

    pairs = (
        ("A–C²", "C² A²(−1)"), ("A²", "A²"), ("A²", "B²"), ("A²", "A³"), ("", ""), ("A²(1+1)", "A²(1+⟨()⟩)"), ("A⁴(÷1)", "A⁴"),
        ("A²(1+⟨()⟩) B²(1+⟨()⟩)", "B²(1+⟨(]⟩) A²(1+⟨[)⟩)"),
    )

    def test_what_is_handed_in_is_not_changed(self):
        for book, copy in self.pairs:
            t, u = Unchanging(chars(book)), Unchanging(chars(copy))
            tell(t, u)
            self.assertEqual((list(t), list(u)), (chars(book), chars(copy)))

    def test_one_list_handed_in_twice(self):
        both = Unchanging(chars("B² A⁴(1+1)"))
        self.assertEqual(tell(both, both), [0])

    def test_a_second_call_answers_as_the_first_did(self):
        first = [tell(chars(book), chars(copy)) for book, copy in self.pairs]
        for answer in first:
            answer.append(0)
        again = [tell(chars(book), chars(copy)) + [0] for book, copy in reversed(self.pairs)]
        self.assertEqual(first, again[::-1])

    def test_answers_are_lists_of_ints_and_new_ones(self):
        for book, copy in self.pairs:
            t, u = chars(book), chars(copy)
            answer = tell(t, u)
            self.assertIs(type(answer), list)
            self.assertIsNot(answer, t)
            self.assertIsNot(answer, u)
            self.assertEqual({type(number) for number in answer}, {int})


if __name__ == "__main__":
    unittest.main()
